/-
  A cluster marked, and looked at again. (Made by gcl15.py.)
-/
import Derived.Test.YtjieklilojmifauGreatRClusL
namespace Go.Proofs.YtjieklilojmifauGreatR
open Go.RowKit Num

/-- a cluster with its marks -/
def cmS (k : Nat) (s : CW) : CW := { s with tree := tmarks k s.tree, peers := pmarks (tnum k s.tree) s.peers }
def cmC (k : Nat) (c : CU) (s : CW) : CU := { c with tree := bks (tmarks k s.tree), peers := pes (pmarks (tnum k s.tree) s.peers), net := lmarks (pnum (tnum k s.tree) s.peers) c.net.length, said := vmarks (pnum (tnum k s.tree) s.peers + 13 * c.net.length) c.said.length, pend := qmarks (pnum (tnum k s.tree) s.peers + 13 * c.net.length + 4 * c.said.length) c.pend.length }
def cnum (k : Nat) (c : CU) (s : CW) : Nat := pnum (tnum k s.tree) s.peers + 13 * c.net.length + 4 * c.said.length + 3 * c.pend.length
theorem pmarks_snd : ∀ (ps : PL) (k : Nat), (pmarks k ps).map Prod.snd = ps.map Prod.snd := by
  intro ps
  induction ps with
  | nil => intro k; rfl
  | cons x ps ih => intro k; simp only [pmarks, List.map_cons, ih]
theorem inPeers_marks {v : Value} {ps : PL} {k g : Nat} : inPeers v (pmarks k ps) g ↔ inPeers v ps g := by
  unfold inPeers
  have e : ∀ (qs : PL), (∃ x ∈ qs, inSix x.2 g) ↔ ∃ x ∈ qs.map Prod.snd, inSix x g := fun qs => ⟨fun ⟨p, hp, h⟩ => ⟨p.2, List.mem_map_of_mem hp, h⟩, fun ⟨x, hx, h⟩ => by obtain ⟨p, hp, rfl⟩ := List.mem_map.1 hx; exact ⟨p, hp, h⟩⟩
  rw [e, e, pmarks_snd]
theorem partC_marks {k : Nat} {s : CW} {i g : Nat} : partC (cmS k s) i g ↔ partC s i g := by
  match i with
  | 0 => exact inTree_marks
  | 1 => exact inPeers_marks
  | 2 => exact Iff.rfl
  | 3 => exact Iff.rfl
  | _ + 4 => exact Iff.rfl
theorem lenPs_mem {l : List PE} {p : PE} (h : p ∈ l) : lenPe p ≤ lenPs l := by
  induction l with
  | nil => cases h
  | cons q l ih =>
    rcases List.mem_cons.1 h with rfl | h
    · simp only [lenPs]; omega
    · have := ih h; simp only [lenPs]; omega
theorem pnum_wt (ps : PL) : ∀ k, pnum k ps ≤ k + 15 * ps.length + 13 * lenPs (pes ps) := by
  induction ps with
  | nil => intro k; simp [pnum]
  | cons x ps ih =>
    intro k
    have := ih (pnum1 k x.1)
    simp only [pnum, pes, List.map_cons, List.length_cons, lenPs] at this ⊢
    unfold pnum1 at this ⊢
    unfold lenPe
    omega
theorem cnum_wt {c : CU} {s : CW} (e0 : bks s.tree = c.tree) (e1 : pes s.peers = c.peers) (k : Nat) : cnum k c s ≤ k + 15 * wtCl c := by
  have h0 := tnum_wt s.tree k
  have h1 := pnum_wt s.peers (tnum k s.tree)
  have h2 : s.peers.length = c.peers.length := by rw [← e1, pes_len]
  rw [e0] at h0
  rw [e1, h2] at h1
  unfold cnum wtCl
  omega
/-- what the marks ask -/
structure mkC (k : Nat) (c : CU) (s : CW) : Prop where
  pos : 0 < k
  num : cnum k c s ≤ 19000000
  ltree : (s.tree.length : Int) ≤ 1048576
  cmds : ∀ p ∈ s.tree, p.1.2.1.length ≤ 1048576
  lpeers : (s.peers.length : Int) ≤ 1048576
  peers : ∀ x ∈ s.peers, sumPe x.1
  net : c.net.length ≤ 1048576
  said : c.said.length ≤ 1048576
  pend : c.pend.length ≤ 1048576
theorem mkC_of {k : Nat} {c : CU} {s : CW} (e0 : bks s.tree = c.tree) (e1 : pes s.peers = c.peers) (hk : 0 < k) (hk2 : k ≤ 1000000) (h : okC c) (hw : wtCl c ≤ 1200000) : mkC k c s := by
  have hn := cnum_wt e0 e1 k
  have hl := h.tree.1
  rw [← e0, bks_len] at hl
  have hp := h.lpeers
  rw [← e1, pes_len] at hp
  have h2 := h.net
  have h3 := h.said
  have h4 := h.pend.1
  refine ⟨hk, by omega, hl, okT_cmds h.tree e0, hp, fun x hx => ?_, by omega, by omega, by omega⟩
  have hm : x.1 ∈ c.peers := by rw [← e1]; exact List.mem_map_of_mem hx
  have hs := h.peers _ hm
  have hle := lenPs_mem hm
  have hw2 : lenPs c.peers ≤ wtCl c := by unfold wtCl; omega
  have a0 := hs.row
  have a1 := hs.cells
  have a2 := hs.early
  have a3 := hs.undos
  have a4 := hs.votes
  have a5 := hs.news
  exact ⟨by omega, by omega, by omega, by omega, by omega, by omega, by omega⟩
set_option maxRecDepth 100000 in
set_option maxHeartbeats 4000000 in
theorem markCluster_set (c : CU) (s : CW) (k lo hi : Nat) (w : World) (h : OwnC lo hi w c s) (hm : mkC k c s) :
    Calls Tryz.prog 14 #[clusV c s, .int .i64 k] w fun e w' => e = .returned (.int .i64 ((cnum k c s : Nat) : Int)) ∧ OwnC lo hi w' (cmC k c s) (cmS k s) ∧ FrS (fun g => ∃ i, i < 5 ∧ partC s i g) w w' := by
  have HC := hid h
  have HM := hid hm
  have hpos := hm.pos
  have hnum := hm.num
  unfold cnum at hnum
  have hlt := hm.ltree
  have hlp := hm.lpeers
  have hl2 := hm.net
  have hl3 := hm.said
  have hl4 := hm.pend
  have hp0 := pnum_le s.peers (tnum k s.tree)
  have hp1 := tnum_le s.tree k
  clear h hm
  obtain ⟨W, hW⟩ : ∃ W, W = w.alloc (.cells (clusA c s) 37) := ⟨_, rfl⟩
  have HFW : Hid (FrS (fun g => ∃ i, i < 5 ∧ partC s i g) w W) := (by rw [hW]; exact FrS.of_below (ba (Below.refl _ _) _) : FrS _ w W)
  have HKW : Hid (W.heap[w.heap.size]? = some (.cells (clusA c s) 37 (0, 0))) := (by rw [hW]; exact heap_alloc_new w _ : W.heap[w.heap.size]? = _)
  have HCW : Hid (OwnC lo hi W c s) := (by rw [hW]; exact HC.out.below (ba (Below.refl _ _) _) : OwnC lo hi W c s)
  have HNB : Hid (∀ i g, i < 5 → partC s i g → g ≠ w.heap.size) := (fun i g hi hg => by have h1 := (HC.out.lim i g hi hg).2; have h2 := HC.out.size; omega : ∀ i g, i < 5 → partC s i g → g ≠ w.heap.size)
  have HT : Hid (OwnT W lo s.treeV s.tree) := HCW.out.tree
  have HP : Hid (OwnPs lo W s.peersV s.peers) := HCW.out.peers
  have HN : Hid (W.ownsRow lo 65 13 s.net c.net.length (flatR letF c.net)) := HCW.out.net
  have HD : Hid (W.ownsRow lo 63 4 s.said c.said.length (flatR voteF c.said)) := HCW.out.said
  have HQ : Hid (W.ownsRow lo 111 3 s.pend c.pend.length (flatR cmdF c.pend)) := HCW.out.pend
  clear HCW
  go_enter Tryz.func14, Tryz.ntmps14
  have a := blk_cell HKW.out 3 s.treeV rfl
  rw [hW] at a
  go_wp2_with fail
  rw [← hW]
  clear hW a
  refine (markBlocks_set s.tree k lo (partC s 0) s.treeV W HT.out (limS_in _ _) hpos (by omega) (by omega) HM.out.cmds).mono ?_
  rintro e x0 ⟨rfl, ho, hg⟩
  have hf : FrS (partC s 0) W x0 := hg
  have HTN : Hid (OwnT x0 lo s.treeV (tmarks k s.tree)) := ho
  have HPN : Hid (OwnPs lo x0 s.peersV s.peers) := HP.out.frs hf (fun g hg hB => by have := HC.out.dis 1 0 g (by omega) (by omega) (Or.inl hg) hB; omega) (fun x hx g hg hB => by have := HC.out.dis 1 0 g (by omega) (by omega) (Or.inr ⟨x, hx, hg⟩) hB; omega)
  have HNN : Hid (x0.ownsRow lo 65 13 s.net c.net.length (flatR letF c.net)) := hf.own HN.out (fun g hg hB => by have := HC.out.dis 2 0 g (by omega) (by omega) hg hB; omega)
  have HDN : Hid (x0.ownsRow lo 63 4 s.said c.said.length (flatR voteF c.said)) := hf.own HD.out (fun g hg hB => by have := HC.out.dis 3 0 g (by omega) (by omega) hg hB; omega)
  have HQN : Hid (x0.ownsRow lo 111 3 s.pend c.pend.length (flatR cmdF c.pend)) := hf.own HQ.out (fun g hg hB => by have := HC.out.dis 4 0 g (by omega) (by omega) hg hB; omega)
  have HFx0 : Hid (FrS (fun g => ∃ i, i < 5 ∧ partC s i g) w x0) := HFW.out.trans (hf.mono (fun g hg => ⟨0, by omega, hg⟩))
  have HKx0 : Hid (x0.heap[w.heap.size]? = some (.cells (clusA c s) 37 (0, 0))) := (hf.block _ (Array.getElem?_eq_some_iff.1 HKW.out).1 (fun hB => HNB.out 0 _ (by omega) hB rfl)).trans HKW.out
  clear ho hg hf HFW HKW HT HP HN HD HQ
  have HT := HTN
  clear HTN
  have HP := HPN
  clear HPN
  have HN := HNN
  clear HNN
  have HD := HDN
  clear HDN
  have HQ := HQN
  clear HQN
  have a := blk_cell HKx0.out 4 s.peersV rfl
  go_wp2_with fail
  clear a
  refine (markPeers_own s.peers (tnum k s.tree) lo (partC s 1) s.peersV x0 HP.out ⟨fun g hg => Or.inl hg, fun x hx g hg => Or.inr ⟨x, hx, hg⟩⟩ (by omega) hlp HM.out.peers).mono ?_
  rintro e x1 ⟨rfl, ho, hg⟩
  have hf : FrS (partC s 1) x0 x1 := hg
  have HTN : Hid (OwnT x1 lo s.treeV (tmarks k s.tree)) := HT.out.frs hf (fun g hg hB => by have := HC.out.dis 0 1 g (by omega) (by omega) (inTree_marks.1 hg) hB; omega)
  have HPN : Hid (OwnPs lo x1 s.peersV (pmarks (tnum k s.tree) s.peers)) := ho
  have HNN : Hid (x1.ownsRow lo 65 13 s.net c.net.length (flatR letF c.net)) := hf.own HN.out (fun g hg hB => by have := HC.out.dis 2 1 g (by omega) (by omega) hg hB; omega)
  have HDN : Hid (x1.ownsRow lo 63 4 s.said c.said.length (flatR voteF c.said)) := hf.own HD.out (fun g hg hB => by have := HC.out.dis 3 1 g (by omega) (by omega) hg hB; omega)
  have HQN : Hid (x1.ownsRow lo 111 3 s.pend c.pend.length (flatR cmdF c.pend)) := hf.own HQ.out (fun g hg hB => by have := HC.out.dis 4 1 g (by omega) (by omega) hg hB; omega)
  have HFx1 : Hid (FrS (fun g => ∃ i, i < 5 ∧ partC s i g) w x1) := HFx0.out.trans (hf.mono (fun g hg => ⟨1, by omega, hg⟩))
  have HKx1 : Hid (x1.heap[w.heap.size]? = some (.cells (clusA c s) 37 (0, 0))) := (hf.block _ (Array.getElem?_eq_some_iff.1 HKx0.out).1 (fun hB => HNB.out 1 _ (by omega) hB rfl)).trans HKx0.out
  clear ho hg hf HFx0 HKx0 HT HP HN HD HQ
  have HT := HTN
  clear HTN
  have HP := HPN
  clear HPN
  have HN := HNN
  clear HNN
  have HD := HDN
  clear HDN
  have HQ := HQN
  clear HQN
  have a := blk_cell HKx1.out 5 s.net rfl
  go_wp2_with fail
  clear a
  refine (markLetters_own c.net.length (pnum (tnum k s.tree) s.peers) s.net lo _ x1 HN.out (by omega) hl2).mono ?_
  rintro e x2 ⟨rfl, ho, hg⟩
  have hf : FrS (partC s 2) x1 x2 := FrS.of_grown hg (fun g e => e)
  have HTN : Hid (OwnT x2 lo s.treeV (tmarks k s.tree)) := HT.out.frs hf (fun g hg hB => by have := HC.out.dis 0 2 g (by omega) (by omega) (inTree_marks.1 hg) hB; omega)
  have HPN : Hid (OwnPs lo x2 s.peersV (pmarks (tnum k s.tree) s.peers)) := HP.out.frs hf (fun g hg hB => by have := HC.out.dis 1 2 g (by omega) (by omega) (Or.inl hg) hB; omega) (fun x hx g hg hB => by have := HC.out.dis 1 2 g (by omega) (by omega) ((inPeers_marks (k := tnum k s.tree)).1 (Or.inr ⟨x, hx, hg⟩)) hB; omega)
  have HNN : Hid (x2.ownsRow lo 65 13 s.net c.net.length (icells (pnum (tnum k s.tree) s.peers) (c.net.length * 13))) := ho
  have HDN : Hid (x2.ownsRow lo 63 4 s.said c.said.length (flatR voteF c.said)) := hf.own HD.out (fun g hg hB => by have := HC.out.dis 3 2 g (by omega) (by omega) hg hB; omega)
  have HQN : Hid (x2.ownsRow lo 111 3 s.pend c.pend.length (flatR cmdF c.pend)) := hf.own HQ.out (fun g hg hB => by have := HC.out.dis 4 2 g (by omega) (by omega) hg hB; omega)
  have HFx2 : Hid (FrS (fun g => ∃ i, i < 5 ∧ partC s i g) w x2) := HFx1.out.trans (hf.mono (fun g hg => ⟨2, by omega, hg⟩))
  have HKx2 : Hid (x2.heap[w.heap.size]? = some (.cells (clusA c s) 37 (0, 0))) := (hf.block _ (Array.getElem?_eq_some_iff.1 HKx1.out).1 (fun hB => HNB.out 2 _ (by omega) hB rfl)).trans HKx1.out
  clear ho hg hf HFx1 HKx1 HT HP HN HD HQ
  have HT := HTN
  clear HTN
  have HP := HPN
  clear HPN
  have HN := HNN
  clear HNN
  have HD := HDN
  clear HDN
  have HQ := HQN
  clear HQN
  have a := blk_cell HKx2.out 6 s.said rfl
  go_wp2_with fail
  clear a
  refine (markVotes_own c.said.length (pnum (tnum k s.tree) s.peers + 13 * c.net.length) s.said lo _ x2 HD.out (by omega) hl3).mono ?_
  rintro e x3 ⟨rfl, ho, hg⟩
  have hf : FrS (partC s 3) x2 x3 := FrS.of_grown hg (fun g e => e)
  have HTN : Hid (OwnT x3 lo s.treeV (tmarks k s.tree)) := HT.out.frs hf (fun g hg hB => by have := HC.out.dis 0 3 g (by omega) (by omega) (inTree_marks.1 hg) hB; omega)
  have HPN : Hid (OwnPs lo x3 s.peersV (pmarks (tnum k s.tree) s.peers)) := HP.out.frs hf (fun g hg hB => by have := HC.out.dis 1 3 g (by omega) (by omega) (Or.inl hg) hB; omega) (fun x hx g hg hB => by have := HC.out.dis 1 3 g (by omega) (by omega) ((inPeers_marks (k := tnum k s.tree)).1 (Or.inr ⟨x, hx, hg⟩)) hB; omega)
  have HNN : Hid (x3.ownsRow lo 65 13 s.net c.net.length (icells (pnum (tnum k s.tree) s.peers) (c.net.length * 13))) := hf.own HN.out (fun g hg hB => by have := HC.out.dis 2 3 g (by omega) (by omega) hg hB; omega)
  have HDN : Hid (x3.ownsRow lo 63 4 s.said c.said.length (icells (pnum (tnum k s.tree) s.peers + 13 * c.net.length) (c.said.length * 4))) := ho
  have HQN : Hid (x3.ownsRow lo 111 3 s.pend c.pend.length (flatR cmdF c.pend)) := hf.own HQ.out (fun g hg hB => by have := HC.out.dis 4 3 g (by omega) (by omega) hg hB; omega)
  have HFx3 : Hid (FrS (fun g => ∃ i, i < 5 ∧ partC s i g) w x3) := HFx2.out.trans (hf.mono (fun g hg => ⟨3, by omega, hg⟩))
  have HKx3 : Hid (x3.heap[w.heap.size]? = some (.cells (clusA c s) 37 (0, 0))) := (hf.block _ (Array.getElem?_eq_some_iff.1 HKx2.out).1 (fun hB => HNB.out 3 _ (by omega) hB rfl)).trans HKx2.out
  clear ho hg hf HFx2 HKx2 HT HP HN HD HQ
  have HT := HTN
  clear HTN
  have HP := HPN
  clear HPN
  have HN := HNN
  clear HNN
  have HD := HDN
  clear HDN
  have HQ := HQN
  clear HQN
  have a := blk_cell HKx3.out 7 s.pend rfl
  go_wp2_with fail
  clear a
  refine (markCmds_set c.pend.length (pnum (tnum k s.tree) s.peers + 13 * c.net.length + 4 * c.said.length) s.pend lo _ x3 HQ.out (by omega) (by omega) hl4).mono ?_
  rintro e x4 ⟨rfl, ho, hg⟩
  have hf : FrS (partC s 4) x3 x4 := FrS.of_grown hg (fun g e => e)
  have HTN : Hid (OwnT x4 lo s.treeV (tmarks k s.tree)) := HT.out.frs hf (fun g hg hB => by have := HC.out.dis 0 4 g (by omega) (by omega) (inTree_marks.1 hg) hB; omega)
  have HPN : Hid (OwnPs lo x4 s.peersV (pmarks (tnum k s.tree) s.peers)) := HP.out.frs hf (fun g hg hB => by have := HC.out.dis 1 4 g (by omega) (by omega) (Or.inl hg) hB; omega) (fun x hx g hg hB => by have := HC.out.dis 1 4 g (by omega) (by omega) ((inPeers_marks (k := tnum k s.tree)).1 (Or.inr ⟨x, hx, hg⟩)) hB; omega)
  have HNN : Hid (x4.ownsRow lo 65 13 s.net c.net.length (icells (pnum (tnum k s.tree) s.peers) (c.net.length * 13))) := hf.own HN.out (fun g hg hB => by have := HC.out.dis 2 4 g (by omega) (by omega) hg hB; omega)
  have HDN : Hid (x4.ownsRow lo 63 4 s.said c.said.length (icells (pnum (tnum k s.tree) s.peers + 13 * c.net.length) (c.said.length * 4))) := hf.own HD.out (fun g hg hB => by have := HC.out.dis 3 4 g (by omega) (by omega) hg hB; omega)
  have HQN : Hid (x4.ownsRow lo 111 3 s.pend c.pend.length (flatR cmdF (qmarks (pnum (tnum k s.tree) s.peers + 13 * c.net.length + 4 * c.said.length) c.pend.length))) := ho
  have HFx4 : Hid (FrS (fun g => ∃ i, i < 5 ∧ partC s i g) w x4) := HFx3.out.trans (hf.mono (fun g hg => ⟨4, by omega, hg⟩))
  have HKx4 : Hid (x4.heap[w.heap.size]? = some (.cells (clusA c s) 37 (0, 0))) := (hf.block _ (Array.getElem?_eq_some_iff.1 HKx3.out).1 (fun hB => HNB.out 4 _ (by omega) hB rfl)).trans HKx3.out
  clear ho hg hf HFx3 HKx3 HT HP HN HD HQ
  have HT := HTN
  clear HTN
  have HP := HPN
  clear HPN
  have HN := HNN
  clear HNN
  have HD := HDN
  clear HDN
  have HQ := HQN
  clear HQN
  go_wp2
  go_ret
  refine ⟨rfl, ⟨rfl, HT.out, rfl, HP.out, ?_, ?_, ?_, fun i j g hi hj h1 h2 => HC.out.dis i j g hi hj (partC_marks.1 h1) (partC_marks.1 h2), fun i g hi hg => HC.out.lim i g hi (partC_marks.1 hg), Nat.le_trans HC.out.size HFx4.out.size⟩, HFx4.out⟩
  · show x4.ownsRow lo 65 13 s.net (lmarks _ _).length (flatR letF (lmarks _ _))
    rw [lmarks_len, lmarks_flat]; exact HN.out
  · show x4.ownsRow lo 63 4 s.said (vmarks _ _).length (flatR voteF (vmarks _ _))
    rw [vmarks_len, vmarks_flat]; exact HD.out
  · show x4.ownsRow lo 111 3 s.pend (qmarks _ _).length (flatR cmdF (qmarks _ _))
    rw [qmarks_len]; exact HQ.out
theorem markCluster_own (c : CU) (s : CW) (k lo hi : Nat) (w : World) (h : OwnC lo hi w c s) (hm : mkC k c s) :
    Calls Tryz.prog 14 #[clusV c s, .int .i64 k] w fun e w' => e = .returned (.int .i64 ((cnum k c s : Nat) : Int)) ∧ OwnC lo hi w' (cmC k c s) (cmS k s) ∧ Fr lo hi w w' :=
  (markCluster_set c s k lo hi w h hm).mono fun _ _ hq => ⟨hq.1, hq.2.1, hq.2.2.fr (fun g hg => by obtain ⟨i, hi, hg⟩ := hg; exact h.lim i g hi hg)⟩

set_option maxRecDepth 100000 in
set_option maxHeartbeats 4000000 in
theorem heldCluster_own (c : CU) (s : CW) (k lo hi : Nat) (w : World) (h : OwnC lo hi w (cmC k c s) (cmS k s)) (hm : mkC k c s) (c' : CU) :
    Calls Tryz.prog 16 #[clusV c' s, .int .i64 k] w fun e w' => e = .returned (.int .i64 ((cnum k c s : Nat) : Int)) ∧ Below w.heap.size w w' := by
  have HC := hid h
  have HM := hid hm
  have hpos := hm.pos
  have hnum := hm.num
  unfold cnum at hnum
  have hlt := hm.ltree
  have hlp := hm.lpeers
  have hl2 := hm.net
  have hl3 := hm.said
  have hl4 := hm.pend
  have hp0 := pnum_le s.peers (tnum k s.tree)
  have hp1 := tnum_le s.tree k
  have HN : Hid (w.ownsRow lo 65 13 s.net c.net.length (icells (pnum (tnum k s.tree) s.peers) (c.net.length * 13))) := (by have := HC.out.net; rw [show (cmC k c s).net = lmarks (pnum (tnum k s.tree) s.peers) c.net.length from rfl, lmarks_len, lmarks_flat] at this; exact this)
  have HD : Hid (w.ownsRow lo 63 4 s.said c.said.length (icells (pnum (tnum k s.tree) s.peers + 13 * c.net.length) (c.said.length * 4))) := (by have := HC.out.said; rw [show (cmC k c s).said = vmarks (pnum (tnum k s.tree) s.peers + 13 * c.net.length) c.said.length from rfl, vmarks_len, vmarks_flat] at this; exact this)
  clear h hm
  obtain ⟨W, hW⟩ : ∃ W, W = w.alloc (.cells (clusA c' s) 37) := ⟨_, rfl⟩
  have HBW : Hid (Below w.heap.size w W) := (by rw [hW]; exact ba (Below.refl _ _) _ : Below w.heap.size w W)
  have HKW : Hid (W.heap[w.heap.size]? = some (.cells (clusA c' s) 37 (0, 0))) := (by rw [hW]; exact heap_alloc_new w _ : W.heap[w.heap.size]? = _)
  go_enter Tryz.func16, Tryz.ntmps16
  have a := blk_cell HKW.out 3 s.treeV rfl
  rw [hW] at a
  go_wp2_with fail
  rw [← hW]
  clear hW a
  refine (heldBlocks_big s.tree k s.treeV W ((HC.out.tree.below HBW.out).read.q) hpos (by omega) (by omega) HM.out.cmds).mono ?_
  rintro e x0 ⟨rfl, hb⟩
  have HBx0 : Hid (Below w.heap.size w x0) := bt HBW.out hb
  have HKx0 : Hid (x0.heap[w.heap.size]? = some (.cells (clusA c' s) 37 (0, 0))) := (hb.block _ (Array.getElem?_eq_some_iff.1 HKW.out).1).trans HKW.out
  clear hb HBW HKW
  have hnn0 : ¬ (((tnum k s.tree : Nat) : Int) < 0) := by omega
  have a := blk_cell HKx0.out 4 s.peersV rfl
  go_wp2_with fail
  clear a
  refine (heldPeers_own s.peers (tnum k s.tree) lo s.peersV x0 (HC.out.peers.below HBx0.out) (by omega) hlp HM.out.peers).mono ?_
  rintro e x1 ⟨rfl, hb⟩
  have HBx1 : Hid (Below w.heap.size w x1) := bt HBx0.out hb
  have HKx1 : Hid (x1.heap[w.heap.size]? = some (.cells (clusA c' s) 37 (0, 0))) := (hb.block _ (Array.getElem?_eq_some_iff.1 HKx0.out).1).trans HKx0.out
  clear hb HBx0 HKx0
  have hnn1 : ¬ (((pnum (tnum k s.tree) s.peers : Nat) : Int) < 0) := by omega
  have a := blk_cell HKx1.out 5 s.net rfl
  go_wp2_with fail
  clear a
  refine (heldLetters_own c.net.length (pnum (tnum k s.tree) s.peers) s.net lo x1 (own_kept HN.out HBx1.out) (by omega) hl2).mono ?_
  rintro e x_ ⟨rfl, hw⟩
  obtain rfl := hw.symm
  clear hw
  have hnn2 : ¬ (((pnum (tnum k s.tree) s.peers + 13 * c.net.length : Nat) : Int) < 0) := by omega
  have a := blk_cell HKx1.out 6 s.said rfl
  go_wp2_with fail
  clear a
  refine (heldVotes_own c.said.length (pnum (tnum k s.tree) s.peers + 13 * c.net.length) s.said lo x1 (own_kept HD.out HBx1.out) (by omega) hl3).mono ?_
  rintro e x_ ⟨rfl, hw⟩
  obtain rfl := hw.symm
  clear hw
  have hnn3 : ¬ (((pnum (tnum k s.tree) s.peers + 13 * c.net.length + 4 * c.said.length : Nat) : Int) < 0) := by omega
  have a := blk_cell HKx1.out 7 s.pend rfl
  go_wp2_with fail
  clear a
  refine (heldCmds_big c.pend.length (pnum (tnum k s.tree) s.peers + 13 * c.net.length + 4 * c.said.length) s.pend x1 ((rows_of_own cmdF_len HC.out.pend).below HBx1.out) (by omega) (by omega) hl4).mono ?_
  rintro e x4 ⟨rfl, hb⟩
  have HBx4 : Hid (Below w.heap.size w x4) := bt HBx1.out hb
  have HKx4 : Hid (x4.heap[w.heap.size]? = some (.cells (clusA c' s) 37 (0, 0))) := (hb.block _ (Array.getElem?_eq_some_iff.1 HKx1.out).1).trans HKx1.out
  clear hb HBx1 HKx1
  have hnn4 : ¬ (((pnum (tnum k s.tree) s.peers + 13 * c.net.length + 4 * c.said.length + 3 * c.pend.length : Nat) : Int) < 0) := by omega
  go_wp2
  go_ret
  exact ⟨rfl, HBx4.out⟩

end Go.Proofs.YtjieklilojmifauGreatR
