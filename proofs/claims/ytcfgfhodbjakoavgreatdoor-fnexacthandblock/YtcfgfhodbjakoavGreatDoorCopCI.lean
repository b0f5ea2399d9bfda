/-
  A cluster copied by the program: the contract of its copyCluster. (Made by gcc16.py.)
-/
import Derived.Test.YtcfgfhodbjakoavGreatDoorClusS
import Derived.Test.YtcfgfhodbjakoavGreatDoorEachI
import Derived.Test.YtcfgfhodbjakoavGreatDoorPutBI2
namespace Go.Proofs.YtcfgfhodbjakoavGreatDoor
open Go.RowKit Num

/-- two boxes: of the cluster that came in, of the answer -/
structure Cop2 (w y : World) (A : Array Value) : Prop where
  below : Below w.heap.size w y
  box : y.heap[w.heap.size]? = some (.cells A 43 (0, 0))
  zero : y.heap[w.heap.size + 1]? = some (.cells zeroC 43 (0, 0))
theorem Cop2.far {w y : World} {A : Array Value} (h : Cop2 w y A) : w.heap.size + 1 < y.heap.size := (Array.getElem?_eq_some_iff.1 h.zero).1
theorem Cop2.more {w y x : World} {A : Array Value} (h : Cop2 w y A) (hb : Below y.heap.size y x) : Cop2 w x A :=
  ⟨bt h.below hb, (hb.block _ (Array.getElem?_eq_some_iff.1 h.box).1).trans h.box, (hb.block _ (Array.getElem?_eq_some_iff.1 h.zero).1).trans h.zero⟩
theorem Cop2.put {w y x : World} {A A' : Array Value} (h : Cop2 w y A) (hg : y.grownBy x (some w.heap.size)) (hk : x.heap[w.heap.size]? = some (.cells A' 43 (0, 0))) : Cop2 w x A' :=
  ⟨h.below.grown hg h.below.size (fun k hk => by cases hk; omega), hk, (hg.block _ (Array.getElem?_eq_some_iff.1 h.zero).1 (fun e => by have := Option.some.inj e; omega)).trans h.zero⟩

set_option maxRecDepth 100000 in
set_option maxHeartbeats 16000000 in
theorem copyC_i (c : CU) (s : CW) (w : World) (hR : ClusR w c s) (hT : TreeR w s.treeV s.tree) (hk : okC c) :
    Calls Tryz.prog 118 #[clusV c s] w fun e w' => ∃ s', e = .returned (clusV c s') ∧ OwnC w.heap.size w'.heap.size w' c s' ∧ Below w.heap.size w w' := by
  have HR := hid hR
  have HT := hid hT
  have HO := hid hk
  have hn5 := hk.net
  have hn6 := hk.said
  have hn7 := hk.pend.1
  have hbl := bks_len s.tree
  have hll : (s.tree.length : Int) ≤ 1048576 := by have := hk.tree.1; rw [← hR.etree, hbl] at this; exact this
  have hpl : (s.peers.length : Int) ≤ 1048576 := by have := hk.lpeers; rw [← hR.epeers, pes_len] at this; exact this
  have HSP : Hid (∀ x ∈ s.peers, smallPe x.1) := (fun x hx => hk.peers x.1 (by rw [← hR.epeers]; exact List.mem_map_of_mem hx) : ∀ x ∈ s.peers, smallPe x.1)
  clear hR hT hk
  obtain ⟨W, hW⟩ : ∃ W, W = (w.alloc (.cells (clusA c s) 43)).alloc (.cells zeroC 43) := ⟨_, rfl⟩
  have HY0 : Hid (Cop2 w W #[.int .i64 c.n, .bool c.chain, .int .i64 c.liars, s.treeV, s.peersV, s.net, s.said, s.pend]) := (by rw [hW]; exact ⟨ba (ba (Below.refl _ _) _) _, (alloc2 w _ _).1, (alloc2 w _ _).2⟩ : Cop2 w W _)
  have HZ0 : Hid (w.heap.size + 1 < W.heap.size) := HY0.out.far
  unfold zeroC at hW
  go_enter Tryz.func118, Tryz.ntmps118
  go_wp2
  rw [← hW]
  clear hW
  refine wp_region_P (fun i => decide (i < 8)) (fun x => x.heap[w.heap.size]? = some (.cells #[.int .i64 c.n, .bool c.chain, .int .i64 c.liars, s.treeV, s.peersV, s.net, s.said, s.pend] 43 (0, 0))) (by kernel_rfl) ?_
  show wpAnyP Tryz.prog _ _ _ _ _ (10 + 1) (Array.replicate 11 false) _ _
  have hS : W.drew.heap[w.heap.size]? = some (.cells #[.int .i64 c.n, .bool c.chain, .int .i64 c.liars, s.treeV, s.peersV, s.net, s.said, s.pend] 43 (0, 0)) := HY0.out.box
  refine p_take (j := 0) (e' := some 3) (v := .pointer (some ⟨w.heap.size, 3, none⟩)) rfl rfl (by kernel_rfl) (by kernel_rfl) (by kernel_rfl) (by kernel_rfl) (by kernel_rfl) (fun _ _ _ h => h) (Or.inl ⟨by rfl, ?_⟩) hS ?_
  · intro x hx
    go_simp
    try with_reducible rfl
  simp only [Act.put, List.setIfInBounds_toArray, List.set_cons_zero, List.set_cons_succ]
  refine p_take (j := 1) (e' := some 4) (v := s.treeV) rfl rfl (by kernel_rfl) (by kernel_rfl) (by kernel_rfl) (by kernel_rfl) (by kernel_rfl) (fun _ _ _ h => h) (Or.inl ⟨by rfl, ?_⟩) hS ?_
  · intro x hx
    have c := blk_cell hx 3 s.treeV rfl
    go_simp
    try with_reducible rfl
  simp only [Act.put, List.setIfInBounds_toArray, List.set_cons_zero, List.set_cons_succ]
  refine p_take (j := 4) (e' := some 7) (v := .pointer (some ⟨w.heap.size, 4, none⟩)) rfl rfl (by kernel_rfl) (by kernel_rfl) (by kernel_rfl) (by kernel_rfl) (by kernel_rfl) (fun _ _ _ h => h) (Or.inl ⟨by rfl, ?_⟩) hS ?_
  · intro x hx
    go_simp
    try with_reducible rfl
  simp only [Act.put, List.setIfInBounds_toArray, List.set_cons_zero, List.set_cons_succ]
  refine p_take (j := 5) (e' := some 8) (v := s.peersV) rfl rfl (by kernel_rfl) (by kernel_rfl) (by kernel_rfl) (by kernel_rfl) (by kernel_rfl) (fun _ _ _ h => h) (Or.inl ⟨by rfl, ?_⟩) hS ?_
  · intro x hx
    have c := blk_cell hx 4 s.peersV rfl
    go_simp
    try with_reducible rfl
  simp only [Act.put, List.setIfInBounds_toArray, List.set_cons_zero, List.set_cons_succ]
  refine p_call (s := 2) (e' := some 5) (fn := 99) (args := #[s.treeV]) rfl rfl (by kernel_rfl) (by rfl) ?_ ((standing_i s.tree s.treeV W.drew (HT.out.below (HY0.out.below.trans (Below.refl _ _).drew)) hll).mono ?_)
  · go_simp
    try with_reducible rfl
  rintro e x1 ⟨v2, L, rfl, hL, hown, hat, hb0⟩
  have hb : Below W.heap.size W x1 := ((Below.refl _ _).drew).trans hb0
  have HLL : Hid (L.length = s.tree.length) := sl_len hL
  have HSK : Hid (sks L = c.tree) := (sks_bks hL).trans HR.out.etree
  have HOK : Hid (∀ x ∈ L, okB x.2.1) := sl_ok hL (by rw [HR.out.etree]; exact HO.out.tree)
  have HST : Hid (Stand x1 v2 L) := ⟨rows_of_own ptrF_len hown, hat.below hb0, capOk_own hown⟩
  have HY1 : Hid (Cop2 w x1 #[.int .i64 c.n, .bool c.chain, .int .i64 c.liars, s.treeV, s.peersV, s.net, s.said, s.pend]) := HY0.out.more hb
  have HZ1 : Hid (W.heap.size ≤ x1.heap.size) := hb.size
  clear hb hb0 hown hat hL hS HY0
  refine ⟨_, rfl, fun _ => HY1.out.box, ?_⟩
  simp only [Act.put, List.setIfInBounds_toArray, List.set_cons_zero, List.set_cons_succ]
  refine p_call (s := 3) (e' := some 6) (fn := 125) (args := #[v2]) rfl rfl (by kernel_rfl) (by rfl) ?_ ((told_i L v2 x1 HST.out (by have := HLL.out; omega) HOK.out).mono ?_)
  · go_simp
    try with_reducible rfl
  rintro e x2 ⟨v3, q3, rfl, hq, ho, hb⟩
  have HE3 : Hid (bks q3 = c.tree) := hq.trans HSK.out
  have HT3 : Hid (OwnT x2 x1.heap.size v3 q3) := ho
  have HL3 : Hid (∀ g, inTree v3 q3 g → g < x2.heap.size) := fun g hg => (inTree_ge ho hg).2
  have HY2 : Hid (Cop2 w x2 #[.int .i64 c.n, .bool c.chain, .int .i64 c.liars, s.treeV, s.peersV, s.net, s.said, s.pend]) := HY1.out.more hb
  have HZ2 : Hid (x1.heap.size ≤ x2.heap.size) := hb.size
  clear hq ho hb HY1 HST
  refine ⟨_, rfl, fun _ => HY2.out.box, ?_⟩
  simp only [Act.put, List.setIfInBounds_toArray, List.set_cons_zero, List.set_cons_succ]
  refine p_take (j := 7) (e' := some 10) (v := .pointer (some ⟨w.heap.size, 3, none⟩)) rfl rfl (by kernel_rfl) (by kernel_rfl) (by kernel_rfl) (by kernel_rfl) (by kernel_rfl) (fun _ _ _ h => h) (Or.inl ⟨by rfl, ?_⟩) HY2.out.box ?_
  · intro x hx
    go_simp
    try with_reducible rfl
  simp only [Act.put, List.setIfInBounds_toArray, List.set_cons_zero, List.set_cons_succ]
  refine p_call (s := 6) (e' := some 9) (fn := 142) (args := #[s.peersV, .func (.func 143) #[] #[]]) rfl rfl (by kernel_rfl) (by rfl) ?_ ((eachPeer_i s.peers s.peersV x2 (HR.out.peers.below HY2.out.below) hpl HSP.out).mono ?_)
  · go_simp
    try with_reducible rfl
  rintro e x3 ⟨v4, q4, rfl, hq, ho, hb⟩
  have HE4 : Hid (pes q4 = c.peers) := hq.trans HR.out.epeers
  have HP4 : Hid (OwnPs x2.heap.size x3 v4 q4) := ho
  have HL4 : Hid (∀ g, inPeers v4 q4 g → g < x3.heap.size) := fun g hg => (inPeers_ge ho hg).2
  have HT4 : Hid (OwnT x3 x1.heap.size v3 q3) := HT3.out.below hb
  have HY3 : Hid (Cop2 w x3 #[.int .i64 c.n, .bool c.chain, .int .i64 c.liars, s.treeV, s.peersV, s.net, s.said, s.pend]) := HY2.out.more hb
  have HZ3 : Hid (x2.heap.size ≤ x3.heap.size) := hb.size
  clear hq ho hb HY2 HT3
  refine ⟨_, rfl, fun _ => HY3.out.box, ?_⟩
  simp only [Act.put, List.setIfInBounds_toArray, List.set_cons_zero, List.set_cons_succ]
  refine p_cell (s := 8) (N := w.heap.size) (o := 3) (u := v3) (old := #[.int .i64 c.n, .bool c.chain, .int .i64 c.liars, s.treeV, s.peersV, s.net, s.said, s.pend]) (new := #[.int .i64 c.n, .bool c.chain, .int .i64 c.liars, v3, s.peersV, s.net, s.said, s.pend]) rfl rfl rfl rfl (by kernel_rfl) rfl rfl HY3.out.box (by kernel_rfl) (by simp) (own_oneC HT4.out.row) rfl ?_
  intro x4 hg hk
  have HY4 : Hid (Cop2 w x4 #[.int .i64 c.n, .bool c.chain, .int .i64 c.liars, v3, s.peersV, s.net, s.said, s.pend]) := HY3.out.put hg hk
  have HT5 : Hid (OwnT x4 x1.heap.size v3 q3) := HT4.out.not hg (by have := HZ0.out; have := HZ1.out; omega)
  have HP5 : Hid (OwnPs x2.heap.size x4 v4 q4) := HP4.out.not hg (by have := HZ0.out; have := HZ1.out; have := HZ2.out; omega)
  have HZ4 : Hid (x3.heap.size ≤ x4.heap.size) := hg.size
  clear hg hk HY3 HT4 HP4
  refine ⟨fun h => (by cases h), ?_⟩
  refine p_pure (j := 9) (e' := some 11) (v := .pointer (some ⟨w.heap.size, 4, none⟩)) rfl rfl (by kernel_rfl) (by kernel_rfl) (by kernel_rfl) (by rfl) (fun _ _ _ h => h) (Or.inl ⟨by rfl, ?_⟩) ?_
  · intro x hx
    go_simp
    try with_reducible rfl
  simp only [Act.put, List.setIfInBounds_toArray, List.set_cons_zero, List.set_cons_succ]
  refine p_cell (s := 10) (N := w.heap.size) (o := 4) (u := v4) (old := #[.int .i64 c.n, .bool c.chain, .int .i64 c.liars, v3, s.peersV, s.net, s.said, s.pend]) (new := #[.int .i64 c.n, .bool c.chain, .int .i64 c.liars, v3, v4, s.net, s.said, s.pend]) rfl rfl rfl rfl (by kernel_rfl) rfl rfl HY4.out.box (by kernel_rfl) (by simp) (own_oneC HP5.out.row) rfl ?_
  intro x5 hg hk
  have HY5 : Hid (Cop2 w x5 #[.int .i64 c.n, .bool c.chain, .int .i64 c.liars, v3, v4, s.net, s.said, s.pend]) := HY4.out.put hg hk
  have HT6 : Hid (OwnT x5 x1.heap.size v3 q3) := HT5.out.not hg (by have := HZ0.out; have := HZ1.out; omega)
  have HP6 : Hid (OwnPs x2.heap.size x5 v4 q4) := HP5.out.not hg (by have := HZ0.out; have := HZ1.out; have := HZ2.out; omega)
  have HZ5 : Hid (x4.heap.size ≤ x5.heap.size) := hg.size
  clear hg hk HY4 HT5 HP5
  refine ⟨fun h => (by cases h), ?_⟩
  refine wpAnyP_done (by kernel_rfl) ?_ _
  go_wp2
  refine wp_region_P (fun i => decide (i < 10)) (fun x => x.heap[w.heap.size]? = some (.cells #[.int .i64 c.n, .bool c.chain, .int .i64 c.liars, v3, v4, s.net, s.said, s.pend] 43 (0, 0))) (by kernel_rfl) ?_
  show wpAnyP Tryz.prog _ _ _ _ _ (14 + 1) (Array.replicate 15 false) _ _
  have hS : x5.drew.heap[w.heap.size]? = some (.cells #[.int .i64 c.n, .bool c.chain, .int .i64 c.liars, v3, v4, s.net, s.said, s.pend] 43 (0, 0)) := HY5.out.box
  refine p_take (j := 0) (e' := some 12) (v := .pointer (some ⟨w.heap.size, 5, none⟩)) rfl rfl (by kernel_rfl) (by kernel_rfl) (by kernel_rfl) (by kernel_rfl) (by kernel_rfl) (fun _ _ _ h => h) (Or.inl ⟨by rfl, ?_⟩) hS ?_
  · intro x hx
    go_simp
    try with_reducible rfl
  simp only [Act.put, List.setIfInBounds_toArray, List.set_cons_zero, List.set_cons_succ]
  refine p_take (j := 1) (e' := some 13) (v := s.net) rfl rfl (by kernel_rfl) (by kernel_rfl) (by kernel_rfl) (by kernel_rfl) (by kernel_rfl) (fun _ _ _ h => h) (Or.inl ⟨by rfl, ?_⟩) hS ?_
  · intro x hx
    have c := blk_cell hx 5 s.net rfl
    go_simp
    try with_reducible rfl
  simp only [Act.put, List.setIfInBounds_toArray, List.set_cons_zero, List.set_cons_succ]
  refine p_take (j := 3) (e' := some 15) (v := .pointer (some ⟨w.heap.size, 6, none⟩)) rfl rfl (by kernel_rfl) (by kernel_rfl) (by kernel_rfl) (by kernel_rfl) (by kernel_rfl) (fun _ _ _ h => h) (Or.inl ⟨by rfl, ?_⟩) hS ?_
  · intro x hx
    go_simp
    try with_reducible rfl
  simp only [Act.put, List.setIfInBounds_toArray, List.set_cons_zero, List.set_cons_succ]
  refine p_take (j := 4) (e' := some 16) (v := s.said) rfl rfl (by kernel_rfl) (by kernel_rfl) (by kernel_rfl) (by kernel_rfl) (by kernel_rfl) (fun _ _ _ h => h) (Or.inl ⟨by rfl, ?_⟩) hS ?_
  · intro x hx
    have c := blk_cell hx 6 s.said rfl
    go_simp
    try with_reducible rfl
  simp only [Act.put, List.setIfInBounds_toArray, List.set_cons_zero, List.set_cons_succ]
  refine p_take (j := 6) (e' := some 18) (v := .pointer (some ⟨w.heap.size, 7, none⟩)) rfl rfl (by kernel_rfl) (by kernel_rfl) (by kernel_rfl) (by kernel_rfl) (by kernel_rfl) (fun _ _ _ h => h) (Or.inl ⟨by rfl, ?_⟩) hS ?_
  · intro x hx
    go_simp
    try with_reducible rfl
  simp only [Act.put, List.setIfInBounds_toArray, List.set_cons_zero, List.set_cons_succ]
  refine p_take (j := 7) (e' := some 19) (v := s.pend) rfl rfl (by kernel_rfl) (by kernel_rfl) (by kernel_rfl) (by kernel_rfl) (by kernel_rfl) (fun _ _ _ h => h) (Or.inl ⟨by rfl, ?_⟩) hS ?_
  · intro x hx
    have c := blk_cell hx 7 s.pend rfl
    go_simp
    try with_reducible rfl
  simp only [Act.put, List.setIfInBounds_toArray, List.set_cons_zero, List.set_cons_succ]
  refine p_call (s := 2) (e' := some 14) (fn := 144) (args := #[s.net]) rfl rfl (by kernel_rfl) (by rfl) ?_ ((newLetters_i c.net s.net x5.drew (HR.out.net.below (HY5.out.below.trans (Below.refl _ _).drew)) hn5).mono ?_)
  · go_simp
    try with_reducible rfl
  rintro e x6 ⟨v5, rfl, ho, hb0⟩
  have hb : Below x5.heap.size x5 x6 := ((Below.refl _ _).drew).trans hb0
  clear hb0 hS
  have HR0a0 : Hid (x6.ownsRow x5.heap.size 48 13 v5 c.net.length (flatR letF c.net)) := ho
  have HLL0 : Hid (∀ g, v5.ownBlock = some g → g < x6.heap.size) := (fun g hg => (ho.lt g hg).2 : ∀ g, v5.ownBlock = some g → g < x6.heap.size)
  have HY5n0 : Hid (Cop2 w x6 #[.int .i64 c.n, .bool c.chain, .int .i64 c.liars, v3, v4, s.net, s.said, s.pend]) := HY5.out.more hb
  have HTn0 : Hid (OwnT x6 x1.heap.size v3 q3) := HT6.out.below hb
  have HPn0 : Hid (OwnPs x2.heap.size x6 v4 q4) := HP6.out.below hb
  have HZn0 : Hid (x5.heap.size ≤ x6.heap.size) := hb.size
  clear ho hb HY5 HT6 HP6 
  refine ⟨_, rfl, fun _ => HY5n0.out.box, ?_⟩
  simp only [Act.put, List.setIfInBounds_toArray, List.set_cons_zero, List.set_cons_succ]
  refine p_take (j := 9) (e' := some 21) (v := .pointer (some ⟨w.heap.size, 5, none⟩)) rfl rfl (by kernel_rfl) (by kernel_rfl) (by kernel_rfl) (by kernel_rfl) (by kernel_rfl) (fun _ _ _ h => h) (Or.inl ⟨by rfl, ?_⟩) HY5n0.out.box ?_
  · intro x hx
    go_simp
    try with_reducible rfl
  simp only [Act.put, List.setIfInBounds_toArray, List.set_cons_zero, List.set_cons_succ]
  refine p_call (s := 5) (e' := some 17) (fn := 145) (args := #[s.said]) rfl rfl (by kernel_rfl) (by rfl) ?_ ((newVotes_i c.said s.said x6 (HR.out.said.below HY5n0.out.below) hn6).mono ?_)
  · go_simp
    try with_reducible rfl
  rintro e x7 ⟨v6, rfl, ho, hb⟩
  have HR1a1 : Hid (x7.ownsRow x6.heap.size 46 4 v6 c.said.length (flatR voteF c.said)) := ho
  have HLL1 : Hid (∀ g, v6.ownBlock = some g → g < x7.heap.size) := (fun g hg => (ho.lt g hg).2 : ∀ g, v6.ownBlock = some g → g < x7.heap.size)
  have HR0a1 : Hid (x7.ownsRow x5.heap.size 48 13 v5 c.net.length (flatR letF c.net)) := own_kept HR0a0.out hb
  have HY5n0n1 : Hid (Cop2 w x7 #[.int .i64 c.n, .bool c.chain, .int .i64 c.liars, v3, v4, s.net, s.said, s.pend]) := HY5n0.out.more hb
  have HTn1 : Hid (OwnT x7 x1.heap.size v3 q3) := HTn0.out.below hb
  have HPn1 : Hid (OwnPs x2.heap.size x7 v4 q4) := HPn0.out.below hb
  have HZn1 : Hid (x6.heap.size ≤ x7.heap.size) := hb.size
  clear ho hb HY5n0 HTn0 HPn0 HR0a0
  refine ⟨_, rfl, fun _ => HY5n0n1.out.box, ?_⟩
  simp only [Act.put, List.setIfInBounds_toArray, List.set_cons_zero, List.set_cons_succ]
  refine p_call (s := 8) (e' := some 20) (fn := 146) (args := #[s.pend]) rfl rfl (by kernel_rfl) (by rfl) ?_ ((copyCmds_i c.pend s.pend x7 (HR.out.pend.below HY5n0n1.out.below) hn7 HO.out.pend.2).mono ?_)
  · go_simp
    try with_reducible rfl
  rintro e x8 ⟨v7, rfl, ho, hb⟩
  have HR2a2 : Hid (x8.ownsRow x7.heap.size 126 3 v7 c.pend.length (flatR cmdF c.pend)) := ho
  have HLL2 : Hid (∀ g, v7.ownBlock = some g → g < x8.heap.size) := (fun g hg => (ho.lt g hg).2 : ∀ g, v7.ownBlock = some g → g < x8.heap.size)
  have HR0a2 : Hid (x8.ownsRow x5.heap.size 48 13 v5 c.net.length (flatR letF c.net)) := own_kept HR0a1.out hb
  have HR1a2 : Hid (x8.ownsRow x6.heap.size 46 4 v6 c.said.length (flatR voteF c.said)) := own_kept HR1a1.out hb
  have HY5n0n1n2 : Hid (Cop2 w x8 #[.int .i64 c.n, .bool c.chain, .int .i64 c.liars, v3, v4, s.net, s.said, s.pend]) := HY5n0n1.out.more hb
  have HTn2 : Hid (OwnT x8 x1.heap.size v3 q3) := HTn1.out.below hb
  have HPn2 : Hid (OwnPs x2.heap.size x8 v4 q4) := HPn1.out.below hb
  have HZn2 : Hid (x7.heap.size ≤ x8.heap.size) := hb.size
  clear ho hb HY5n0n1 HTn1 HPn1 HR0a1 HR1a1
  refine ⟨_, rfl, fun _ => HY5n0n1n2.out.box, ?_⟩
  simp only [Act.put, List.setIfInBounds_toArray, List.set_cons_zero, List.set_cons_succ]
  refine p_cell (s := 10) (N := w.heap.size) (o := 5) (u := v5) (old := #[.int .i64 c.n, .bool c.chain, .int .i64 c.liars, v3, v4, s.net, s.said, s.pend]) (new := #[.int .i64 c.n, .bool c.chain, .int .i64 c.liars, v3, v4, v5, s.said, s.pend]) rfl rfl rfl rfl (by kernel_rfl) rfl rfl HY5n0n1n2.out.box (by kernel_rfl) (by simp) (own_oneC HR0a2.out) rfl ?_
  intro k1 hg hk
  have HK0 : Hid (Cop2 w k1 #[.int .i64 c.n, .bool c.chain, .int .i64 c.liars, v3, v4, v5, s.said, s.pend]) := HY5n0n1n2.out.put hg hk
  have HTk0 : Hid (OwnT k1 x1.heap.size v3 q3) := HTn2.out.not hg (by have := HZ0.out; have := HZ1.out; omega)
  have HPk0 : Hid (OwnPs x2.heap.size k1 v4 q4) := HPn2.out.not hg (by have := HZ0.out; have := HZ1.out; have := HZ2.out; omega)
  have HZk0 : Hid (x8.heap.size ≤ k1.heap.size) := hg.size
  have HRk00 : Hid (k1.ownsRow x5.heap.size 48 13 v5 c.net.length (flatR letF c.net)) := own_not HR0a2.out hg (by have := HZ0.out; have := HZ1.out; have := HZ2.out; have := HZ3.out; have := HZ4.out; have := HZ5.out; have := HZn0.out; have := HZn1.out; omega)
  have HRk10 : Hid (k1.ownsRow x6.heap.size 46 4 v6 c.said.length (flatR voteF c.said)) := own_not HR1a2.out hg (by have := HZ0.out; have := HZ1.out; have := HZ2.out; have := HZ3.out; have := HZ4.out; have := HZ5.out; have := HZn0.out; have := HZn1.out; omega)
  have HRk20 : Hid (k1.ownsRow x7.heap.size 126 3 v7 c.pend.length (flatR cmdF c.pend)) := own_not HR2a2.out hg (by have := HZ0.out; have := HZ1.out; have := HZ2.out; have := HZ3.out; have := HZ4.out; have := HZ5.out; have := HZn0.out; have := HZn1.out; omega)
  clear hg hk HY5n0n1n2 HTn2 HPn2 HR0a2 HR1a2 HR2a2
  refine ⟨fun h => (by cases h), ?_⟩
  refine p_pure (j := 11) (e' := some 22) (v := .pointer (some ⟨w.heap.size, 6, none⟩)) rfl rfl (by kernel_rfl) (by kernel_rfl) (by kernel_rfl) (by rfl) (fun _ _ _ h => h) (Or.inl ⟨by rfl, ?_⟩) ?_
  · intro x hx
    go_simp
    try with_reducible rfl
  simp only [Act.put, List.setIfInBounds_toArray, List.set_cons_zero, List.set_cons_succ]
  refine p_cell (s := 12) (N := w.heap.size) (o := 6) (u := v6) (old := #[.int .i64 c.n, .bool c.chain, .int .i64 c.liars, v3, v4, v5, s.said, s.pend]) (new := #[.int .i64 c.n, .bool c.chain, .int .i64 c.liars, v3, v4, v5, v6, s.pend]) rfl rfl rfl rfl (by kernel_rfl) rfl rfl HK0.out.box (by kernel_rfl) (by simp) (own_oneC HRk10.out) rfl ?_
  intro k2 hg hk
  have HK1 : Hid (Cop2 w k2 #[.int .i64 c.n, .bool c.chain, .int .i64 c.liars, v3, v4, v5, v6, s.pend]) := HK0.out.put hg hk
  have HTk1 : Hid (OwnT k2 x1.heap.size v3 q3) := HTk0.out.not hg (by have := HZ0.out; have := HZ1.out; omega)
  have HPk1 : Hid (OwnPs x2.heap.size k2 v4 q4) := HPk0.out.not hg (by have := HZ0.out; have := HZ1.out; have := HZ2.out; omega)
  have HZk1 : Hid (k1.heap.size ≤ k2.heap.size) := hg.size
  have HRk01 : Hid (k2.ownsRow x5.heap.size 48 13 v5 c.net.length (flatR letF c.net)) := own_not HRk00.out hg (by have := HZ0.out; have := HZ1.out; have := HZ2.out; have := HZ3.out; have := HZ4.out; have := HZ5.out; have := HZn0.out; have := HZn1.out; omega)
  have HRk11 : Hid (k2.ownsRow x6.heap.size 46 4 v6 c.said.length (flatR voteF c.said)) := own_not HRk10.out hg (by have := HZ0.out; have := HZ1.out; have := HZ2.out; have := HZ3.out; have := HZ4.out; have := HZ5.out; have := HZn0.out; have := HZn1.out; omega)
  have HRk21 : Hid (k2.ownsRow x7.heap.size 126 3 v7 c.pend.length (flatR cmdF c.pend)) := own_not HRk20.out hg (by have := HZ0.out; have := HZ1.out; have := HZ2.out; have := HZ3.out; have := HZ4.out; have := HZ5.out; have := HZn0.out; have := HZn1.out; omega)
  clear hg hk HK0 HTk0 HPk0 HRk00 HRk10 HRk20
  refine ⟨fun h => (by cases h), ?_⟩
  refine p_pure (j := 13) (e' := some 23) (v := .pointer (some ⟨w.heap.size, 7, none⟩)) rfl rfl (by kernel_rfl) (by kernel_rfl) (by kernel_rfl) (by rfl) (fun _ _ _ h => h) (Or.inl ⟨by rfl, ?_⟩) ?_
  · intro x hx
    go_simp
    try with_reducible rfl
  simp only [Act.put, List.setIfInBounds_toArray, List.set_cons_zero, List.set_cons_succ]
  refine p_cell (s := 14) (N := w.heap.size) (o := 7) (u := v7) (old := #[.int .i64 c.n, .bool c.chain, .int .i64 c.liars, v3, v4, v5, v6, s.pend]) (new := #[.int .i64 c.n, .bool c.chain, .int .i64 c.liars, v3, v4, v5, v6, v7]) rfl rfl rfl rfl (by kernel_rfl) rfl rfl HK1.out.box (by kernel_rfl) (by simp) (own_oneC HRk21.out) rfl ?_
  intro k3 hg hk
  have HK2 : Hid (Cop2 w k3 #[.int .i64 c.n, .bool c.chain, .int .i64 c.liars, v3, v4, v5, v6, v7]) := HK1.out.put hg hk
  have HTk2 : Hid (OwnT k3 x1.heap.size v3 q3) := HTk1.out.not hg (by have := HZ0.out; have := HZ1.out; omega)
  have HPk2 : Hid (OwnPs x2.heap.size k3 v4 q4) := HPk1.out.not hg (by have := HZ0.out; have := HZ1.out; have := HZ2.out; omega)
  have HZk2 : Hid (k2.heap.size ≤ k3.heap.size) := hg.size
  have HRk02 : Hid (k3.ownsRow x5.heap.size 48 13 v5 c.net.length (flatR letF c.net)) := own_not HRk01.out hg (by have := HZ0.out; have := HZ1.out; have := HZ2.out; have := HZ3.out; have := HZ4.out; have := HZ5.out; have := HZn0.out; have := HZn1.out; omega)
  have HRk12 : Hid (k3.ownsRow x6.heap.size 46 4 v6 c.said.length (flatR voteF c.said)) := own_not HRk11.out hg (by have := HZ0.out; have := HZ1.out; have := HZ2.out; have := HZ3.out; have := HZ4.out; have := HZ5.out; have := HZn0.out; have := HZn1.out; omega)
  have HRk22 : Hid (k3.ownsRow x7.heap.size 126 3 v7 c.pend.length (flatR cmdF c.pend)) := own_not HRk21.out hg (by have := HZ0.out; have := HZ1.out; have := HZ2.out; have := HZ3.out; have := HZ4.out; have := HZ5.out; have := HZn0.out; have := HZn1.out; omega)
  clear hg hk HK1 HTk1 HPk1 HRk01 HRk11 HRk21
  refine ⟨fun h => (by cases h), ?_⟩
  refine wpAnyP_done (by kernel_rfl) ?_ _
  have HOW : Hid (OwnC x1.heap.size k3.heap.size k3 c ⟨v3, q3, v4, q4, v5, v6, v7⟩) := (by
    have a0 := HZ0.out
    have a1 := HZ1.out
    have a2 := HZ2.out
    have a3 := HZ3.out
    have a4 := HZ4.out
    have a5 := HZ5.out
    have b0 := HZn0.out
    have b1 := HZn1.out
    have b2 := HZn2.out
    have d0 := HZk0.out
    have d1 := HZk1.out
    have d2 := HZk2.out
    exact ownC_of (b0 := x1.heap.size) (b1 := x2.heap.size) (b2 := x5.heap.size) (b3 := x6.heap.size) (b4 := x7.heap.size) (b5 := k3.heap.size) (w := k3) (c := c) (s := ⟨v3, q3, v4, q4, v5, v6, v7⟩) HE3.out HTk2.out (fun g hg => by have := HL3.out g hg; omega) HE4.out HPk2.out (fun g hg => by have := HL4.out g hg; omega) HRk02.out (fun g hg => by have := HLL0.out g hg; omega) HRk12.out (fun g hg => by have := HLL1.out g hg; omega) HRk22.out (fun g hg => by have := HLL2.out g hg; omega) (by omega) (by omega) (by omega) (by omega) (by omega) (Nat.le_refl _) : OwnC x1.heap.size k3.heap.size k3 c ⟨v3, q3, v4, q4, v5, v6, v7⟩)
  have HZE : Hid (w.heap.size ≤ x1.heap.size) := (by have := HZ0.out; have := HZ1.out; omega : w.heap.size ≤ x1.heap.size)
  clear HTk2 HPk2 HRk02 HRk12 HRk22
  go_wp2_with (first
    | (refine wpList_load_row rfl _ _ rfl w.heap.size rfl 43 _ (0, 0) _ HK2.out.box Tryz.underlying43 rfl (by kernel_rfl) ?_)
    | (refine wpList_store_blk rfl _ _ _ rfl (w.heap.size + 1) #[.int .i64 c.n, .bool c.chain, .int .i64 c.liars, v3, v4, v5, v6, v7] rfl rfl 43 zeroC HK2.out.zero (by kernel_rfl) rfl (clusA_one HOW.out) ?_; intro z hg hk hz; have HBz : Hid (Below w.heap.size w z ∧ z.heap[w.heap.size + 1]? = some (.cells #[.int .i64 c.n, .bool c.chain, .int .i64 c.liars, v3, v4, v5, v6, v7] 43 (0, 0)) ∧ OwnC w.heap.size z.heap.size z c ⟨v3, q3, v4, q4, v5, v6, v7⟩) := ⟨HK2.out.below.grown hg HK2.out.below.size (fun k hk => by cases hk; omega), hk, ((HOW.out.frs (FrS.of_grown hg (B := fun i => i = w.heap.size + 1) (fun i e => by cases e; rfl)) (fun i g hi hp e => by have := (HOW.out.lim i g hi hp).1; have := HZ0.out; have := HZ1.out; omega)).low HZE.out).wide hg.size (Nat.le_refl _)⟩; clear hg hk hz))
  refine bodyPost_ret (v := .agg #[.int .i64 c.n, .bool c.chain, .int .i64 c.liars, v3, v4, v5, v6, v7]) (results_cell_row Tryz.results118 _ _ (w.heap.size + 1) 43 _ (0, 0) _ rfl HBz.out.2.1 Tryz.underlying43 rfl (by kernel_rfl)) rfl ?_
  exact ⟨⟨v3, q3, v4, q4, v5, v6, v7⟩, rfl, HBz.out.2.2, HBz.out.1⟩

end Go.Proofs.YtcfgfhodbjakoavGreatDoor
