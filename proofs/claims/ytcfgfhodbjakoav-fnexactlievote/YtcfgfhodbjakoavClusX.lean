/-
  A cluster: its plain value, its eight cells, its lists in memory; one that came in; one of the call's own. (Made by gcl15.py.)
-/
import Derived.Test.YtcfgfhodbjakoavPeersH
import Derived.Test.YtcfgfhodbjakoavTreeM
import Derived.Test.YtcfgfhodbjakoavBlkW
import Derived.Test.YtcfgfhodbjakoavBlkOpen
import Derived.Test.YtcfgfhodbjakoavCmdOpen
namespace Go.Proofs.Ytcfgfhodbjakoav
open Go.ChangeShapes Go.WideShapes Go.ChangeAt Go.RowKit Num

structure CU where
  n : Int
  chain : Bool
  liars : Int
  tree : List BK
  peers : List PE
  net : List LT
  said : List VT
  pend : List CM
/-- its lists in memory -/
structure CW where
  treeV : Value
  tree : TL
  peersV : Value
  peers : PL
  net : Value
  said : Value
  pend : Value
def clusA (c : CU) (s : CW) : Array Value := #[.int .i64 c.n, .bool c.chain, .int .i64 c.liars, s.treeV, s.peersV, s.net, s.said, s.pend]
def clusL (c : CU) (s : CW) : List Value := [.int .i64 c.n, .bool c.chain, .int .i64 c.liars, s.treeV, s.peersV, s.net, s.said, s.pend]
abbrev clusV (c : CU) (s : CW) : Value := .agg (clusA c s)
/-- its lists can be read -/
structure ClusR (w : World) (c : CU) (s : CW) : Prop where
  etree : bks s.tree = c.tree
  tree : TreeQ w s.treeV s.tree
  epeers : pes s.peers = c.peers
  peers : PeersR w s.peersV s.peers
  net : RowsR w s.net 13 letF c.net
  said : RowsR w s.said 4 voteF c.said
  pend : RowsR w s.pend 3 cmdF c.pend
theorem ClusR.below {w w' : World} {c : CU} {s : CW} (h : ClusR w c s) (hb : Below w.heap.size w w') : ClusR w' c s := ⟨h.etree, h.tree.below hb, h.epeers, h.peers.below hb, h.net.below hb, h.said.below hb, h.pend.below hb⟩
/-- its lists are no longer than they can be, its numbers are numbers of this machine -/
structure goodC (c : CU) : Prop where
  n : (Lit.int .i64 c.n).wf = true
  liars : (Lit.int .i64 c.liars).wf = true
  ltree : c.tree.length ≤ maxLen
  tree : ∀ b ∈ c.tree, goodBk b ∧ wfB b
  lpeers : c.peers.length ≤ maxLen
  peers : ∀ p ∈ c.peers, goodPe p
  lnet : c.net.length ≤ maxLen
  net : ∀ l ∈ c.net, wfL l
  lsaid : c.said.length ≤ maxLen
  said : ∀ v ∈ c.said, wfV v
  lpend : c.pend.length ≤ maxLen
  pend : ∀ x ∈ c.pend, goodCmd x
/-- how much it weighs -/
def wtCl (c : CU) : Nat := wtB c.tree + c.peers.length + lenPs c.peers + c.net.length + c.said.length + c.pend.length
/-- its lists are short -/
structure okC (c : CU) : Prop where
  tree : okT c.tree
  lpeers : (c.peers.length : Int) ≤ 1048576
  peers : ∀ p ∈ c.peers, smallPe p
  net : (c.net.length : Int) ≤ 1048576
  said : (c.said.length : Int) ≤ 1048576
  pend : (c.pend.length : Int) ≤ 1048576 ∧ ∀ x ∈ c.pend, (x.2.1.size : Int) ≤ 1048576
/-- the blocks of its five parts -/
def inPeers (v : Value) (ps : PL) (g : Nat) : Prop := v.ownBlock = some g ∨ ∃ x ∈ ps, inSix x.2 g
def partC (s : CW) : Nat → Nat → Prop
  | 0, g => inTree s.treeV s.tree g
  | 1, g => inPeers s.peersV s.peers g
  | 2, g => s.net.ownBlock = some g
  | 3, g => s.said.ownBlock = some g
  | _, g => s.pend.ownBlock = some g
/-- a cluster of the call's own: its parts lie apart, between lo and hi -/
structure OwnC (lo hi : Nat) (w : World) (c : CU) (s : CW) : Prop where
  etree : bks s.tree = c.tree
  tree : OwnT w lo s.treeV s.tree
  epeers : pes s.peers = c.peers
  peers : OwnPs lo w s.peersV s.peers
  net : w.ownsRow lo 35 13 s.net c.net.length (flatR letF c.net)
  said : w.ownsRow lo 33 4 s.said c.said.length (flatR voteF c.said)
  pend : w.ownsRow lo 93 3 s.pend c.pend.length (flatR cmdF c.pend)
  dis : ∀ i j g, i < 5 → j < 5 → partC s i g → partC s j g → i = j
  lim : ∀ i g, i < 5 → partC s i g → lo ≤ g ∧ g < hi
  size : hi ≤ w.heap.size
theorem OwnC.reads {lo hi : Nat} {w : World} {c : CU} {s : CW} (h : OwnC lo hi w c s) : ClusR w c s := ⟨h.etree, h.tree.read.q, h.epeers, h.peers.reads, rows_of_own letF_len h.net, rows_of_own voteF_len h.said, rows_of_own cmdF_len h.pend⟩
theorem OwnC.below {lo hi : Nat} {w w' : World} {c : CU} {s : CW} (h : OwnC lo hi w c s) (hb : Below w.heap.size w w') : OwnC lo hi w' c s := ⟨h.etree, h.tree.below hb, h.epeers, h.peers.below hb, own_kept h.net hb, own_kept h.said hb, own_kept h.pend hb, h.dis, h.lim, Nat.le_trans h.size hb.size⟩
/-- what is written outside of some of its parts -/
theorem OwnC.frs {lo hi : Nat} {w w' : World} {c : CU} {s : CW} {B : Nat → Prop} (h : OwnC lo hi w c s) (hf : FrS B w w') (hB : ∀ i g, i < 5 → partC s i g → ¬ B g) : OwnC lo hi w' c s :=
  ⟨h.etree, h.tree.frs hf (fun g hg => hB 0 g (by omega) hg), h.epeers, h.peers.frs hf (fun g hg => hB 1 g (by omega) (Or.inl hg)) (fun x hx g hg => hB 1 g (by omega) (Or.inr ⟨x, hx, hg⟩)), hf.own h.net (fun g hg => hB 2 g (by omega) hg), hf.own h.said (fun g hg => hB 3 g (by omega) hg), hf.own h.pend (fun g hg => hB 4 g (by omega) hg), h.dis, h.lim, Nat.le_trans h.size hf.size⟩
theorem OwnC.fr {lo hi a b : Nat} {w w' : World} {c : CU} {s : CW} (h : OwnC lo hi w c s) (hf : Fr a b w w') (hN : hi ≤ a ∨ b ≤ lo) : OwnC lo hi w' c s :=
  h.frs (B := fun g => a ≤ g ∧ g < b) ⟨hf.os, hf.tape, hf.output, hf.size, fun k hk hn => hf.block k hk (by omega)⟩ (fun i g hi hg hB => by have := h.lim i g hi hg; omega)
theorem OwnC.boxed {lo hi N : Nat} {w w' : World} {c : CU} {s : CW} (h : OwnC lo hi w c s) (hg : w.grownBy w' (some N)) (hN : N < lo ∨ hi ≤ N) : OwnC lo hi w' c s :=
  h.frs (B := fun k => k = N) (FrS.of_grown hg (fun k e => by cases e; rfl)) (fun i g hi hg hB => by have := h.lim i g hi hg; omega)
theorem OwnC.wide {lo hi hi' : Nat} {w : World} {c : CU} {s : CW} (h : OwnC lo hi w c s) (hh : hi ≤ hi') (hs : hi' ≤ w.heap.size) : OwnC lo hi' w c s := ⟨h.etree, h.tree, h.epeers, h.peers, h.net, h.said, h.pend, h.dis, fun i g hi hg => by have := h.lim i g hi hg; omega, hs⟩
theorem OwnC.low {lo lo' hi : Nat} {w : World} {c : CU} {s : CW} (h : OwnC lo hi w c s) (hl : lo' ≤ lo) : OwnC lo' hi w c s := ⟨h.etree, h.tree.base hl, h.epeers, h.peers.low hl, own_base h.net hl, own_base h.said hl, own_base h.pend hl, h.dis, fun i g hi hg => by have := h.lim i g hi hg; omega, h.size⟩
theorem inPeers_ge {lo : Nat} {w : World} {v : Value} {ps : PL} (h : OwnPs lo w v ps) {g : Nat} (hg : inPeers v ps g) : lo ≤ g ∧ g < w.heap.size := by
  rcases hg with hg | ⟨x, hx, a, ha, e⟩
  · exact h.row.lt g hg
  · exact six_in (h.own.each x hx).2.1 a ha g e
theorem inTree_ge {lo : Nat} {w : World} {v : Value} {ps : TL} (h : OwnT w lo v ps) {g : Nat} (hg : inTree v ps g) : lo ≤ g ∧ g < w.heap.size := by
  rcases hg with hg | ⟨p, hp, e⟩
  · exact h.row.lt g hg
  · exact (h.cmds p hp).lt g e
/-- its parts were made one behind the other -/
theorem ownC_of {b0 b1 b2 b3 b4 b5 : Nat} {w : World} {c : CU} {s : CW} (e0 : bks s.tree = c.tree) (t : OwnT w b0 s.treeV s.tree) (lt : ∀ g, inTree s.treeV s.tree g → g < b1) (e1 : pes s.peers = c.peers) (p : OwnPs b1 w s.peersV s.peers) (lp : ∀ g, inPeers s.peersV s.peers g → g < b2)
    (n : w.ownsRow b2 35 13 s.net c.net.length (flatR letF c.net)) (ln : ∀ g, s.net.ownBlock = some g → g < b3) (d : w.ownsRow b3 33 4 s.said c.said.length (flatR voteF c.said)) (ld : ∀ g, s.said.ownBlock = some g → g < b4) (q : w.ownsRow b4 93 3 s.pend c.pend.length (flatR cmdF c.pend)) (lq : ∀ g, s.pend.ownBlock = some g → g < b5)
    (h0 : b0 ≤ b1) (h1 : b1 ≤ b2) (h2 : b2 ≤ b3) (h3 : b3 ≤ b4) (h4 : b4 ≤ b5) (h5 : b5 ≤ w.heap.size) : OwnC b0 b5 w c s := by
  have bd : ∀ i g, i < 5 → partC s i g → (i = 0 ∧ b0 ≤ g ∧ g < b1) ∨ (i = 1 ∧ b1 ≤ g ∧ g < b2) ∨ (i = 2 ∧ b2 ≤ g ∧ g < b3) ∨ (i = 3 ∧ b3 ≤ g ∧ g < b4) ∨ (i = 4 ∧ b4 ≤ g ∧ g < b5) := fun i g hi hg => by
    match i, hi with
    | 0, _ => exact Or.inl ⟨rfl, (inTree_ge t hg).1, lt g hg⟩
    | 1, _ => exact Or.inr (Or.inl ⟨rfl, (inPeers_ge p hg).1, lp g hg⟩)
    | 2, _ => exact Or.inr (Or.inr (Or.inl ⟨rfl, (n.lt g hg).1, ln g hg⟩))
    | 3, _ => exact Or.inr (Or.inr (Or.inr (Or.inl ⟨rfl, (d.lt g hg).1, ld g hg⟩)))
    | 4, _ => exact Or.inr (Or.inr (Or.inr (Or.inr ⟨rfl, (q.lt g hg).1, lq g hg⟩)))
  refine ⟨e0, t, e1, p.low (by omega), own_base n (by omega), own_base d (by omega), own_base q (by omega), fun i j g hi hj h1 h2 => ?_, fun i g hi hg => ?_, h5⟩
  · have := bd i g hi h1
    have := bd j g hj h2
    omega
  · have := bd i g hi hg
    omega

theorem trod_struct8 {P : Program} {H : Type} {enc : TypeId × Value → H} {w : World} {base : Nat} {spare : Nat → Bool} {held : Bool} {t : TypeId} {f0 f1 f2 f3 f4 f5 f6 f7 : Field} {fuel : Nat} {cs : List Value} {x : DataW H × List MemPlace} (ht : P.underlying t = some (.struct #[f0, f1, f2, f3, f4, f5, f6, f7])) (h : DataW.trod enc P w base spare held fuel t cs = some x) :
    ∃ y0 y1 y2 y3 y4 y5 y6 y7 n, cs.length = P.cellsOf t ∧ DataW.trod enc P w base spare held n f0.type ((cs.drop f0.offset).take (P.cellsOf f0.type)) = some y0 ∧ DataW.trod enc P w base spare held n f1.type ((cs.drop f1.offset).take (P.cellsOf f1.type)) = some y1 ∧ DataW.trod enc P w base spare held n f2.type ((cs.drop f2.offset).take (P.cellsOf f2.type)) = some y2 ∧ DataW.trod enc P w base spare held n f3.type ((cs.drop f3.offset).take (P.cellsOf f3.type)) = some y3 ∧ DataW.trod enc P w base spare held n f4.type ((cs.drop f4.offset).take (P.cellsOf f4.type)) = some y4 ∧ DataW.trod enc P w base spare held n f5.type ((cs.drop f5.offset).take (P.cellsOf f5.type)) = some y5 ∧ DataW.trod enc P w base spare held n f6.type ((cs.drop f6.offset).take (P.cellsOf f6.type)) = some y6 ∧ DataW.trod enc P w base spare held n f7.type ((cs.drop f7.offset).take (P.cellsOf f7.type)) = some y7 := by
  obtain ⟨xs, n, _, rfl, hl, hlen, hf⟩ := DataW.trod_struct ht h
  match xs, hlen with
  | [y0, y1, y2, y3, y4, y5, y6, y7], _ => exact ⟨y0, y1, y2, y3, y4, y5, y6, y7, n, hl, by simpa using hf 0 f0 rfl, by simpa using hf 1 f1 rfl, by simpa using hf 2 f2 rfl, by simpa using hf 3 f3 rfl, by simpa using hf 4 f4 rfl, by simpa using hf 5 f5 rfl, by simpa using hf 6 f6 rfl, by simpa using hf 7 f7 rfl⟩
set_option maxRecDepth 100000 in
set_option maxHeartbeats 2000000 in
theorem cluster_rd {H : Type} {enc : TypeId × Value → H} {W : World} : ∀ n cs x, DataW.trod enc Try.prog W 0 (fun _ => true) true n 28 cs = some x → ∃ (c : CU) (s : CW), cs = clusL c s ∧ ClusR W c s ∧ goodC c := by
  intro n cs x h
  obtain ⟨y0, y1, y2, y3, y4, y5, y6, y7, k, hl, h0, h1, h2, h3, h4, h5, h6, h7⟩ := trod_struct8 Try.underlying28 h
  have hlc : cs.length = 8 := hl.trans (by kernel_rfl)
  obtain ⟨a0, a1, a2, a3, a4, a5, a6, a7, rfl⟩ : ∃ a0 a1 a2 a3 a4 a5 a6 a7, cs = [a0, a1, a2, a3, a4, a5, a6, a7] := by
    match cs, hlc with
    | [a0, a1, a2, a3, a4, a5, a6, a7], _ => exact ⟨a0, a1, a2, a3, a4, a5, a6, a7, rfl⟩
  have c0 : Try.prog.cellsOf 3 = 1 := by kernel_rfl
  have c1 : Try.prog.cellsOf 4 = 1 := by kernel_rfl
  have c2 : Try.prog.cellsOf 22 = 1 := by kernel_rfl
  have c3 : Try.prog.cellsOf 23 = 1 := by kernel_rfl
  have c4 : Try.prog.cellsOf 24 = 1 := by kernel_rfl
  have c5 : Try.prog.cellsOf 25 = 1 := by kernel_rfl
  have c6 : Try.prog.cellsOf 26 = 1 := by kernel_rfl
  simp only [c0, c1, c2, c3, c4, c5, c6] at h0 h1 h2 h3 h4 h5 h6 h7
  obtain ⟨z0, e0, _, w0⟩ := DataW.trod_int Try.underlying3 h0
  obtain ⟨z1, e1, _⟩ := DataW.trod_bool Try.underlying4 h1
  obtain ⟨z2, e2, _, w2⟩ := DataW.trod_int Try.underlying3 h2
  obtain ⟨b3, l3, p3, e3⟩ := slice_rd Try.underlying22 h3
  obtain ⟨b4, l4, p4, e4⟩ := slice_rd Try.underlying23 h4
  obtain ⟨b5, l5, p5, e5⟩ := slice_rd Try.underlying24 h5
  obtain ⟨b6, l6, p6, e6⟩ := slice_rd Try.underlying25 h6
  obtain ⟨b7, l7, p7, e7⟩ := slice_rd Try.underlying26 h7
  simp at e0 e1 e2
  subst e0 e1 e2
  have e3' : a3 = .slice b3 l3 p3 := e3
  have e4' : a4 = .slice b4 l4 p4 := e4
  have e5' : a5 = .slice b5 l5 p5 := e5
  have e6' : a6 = .slice b6 l6 p6 := e6
  have e7' : a7 = .slice b7 l7 p7 := e7
  subst e3' e4' e5' e6' e7'
  obtain ⟨x3, _, r3, m3, g3⟩ := blocks_open (a := b3) (len := l3) (cap := p3) ⟨k, h3⟩
  obtain ⟨x4, _, r4, m4, g4⟩ := peers_open (a := b4) (len := l4) (cap := p4) ⟨k, h4⟩
  obtain ⟨x5, _, r5, m5, g5⟩ := letters_open (a := b5) (len := l5) (cap := p5) ⟨k, h5⟩
  obtain ⟨x6, _, r6, m6, g6⟩ := votes_open (a := b6) (len := l6) (cap := p6) ⟨k, h6⟩
  obtain ⟨x7, _, r7, m7, g7⟩ := cmds_open (a := b7) (len := l7) (cap := p7) ⟨k, h7⟩
  refine ⟨⟨z0, z1, z2, bks x3, pes x4, x5, x6, x7⟩, ⟨.slice b3 l3 p3, x3, .slice b4 l4 p4, x4, .slice b5 l5 p5, .slice b6 l6 p6, .slice b7 l7 p7⟩, rfl, ⟨rfl, r3, rfl, r4, r5, r6, r7⟩, ⟨w0, w2, by show (bks x3).length ≤ maxLen; rw [bks_len]; exact m3, fun b hb => ?_, by show (pes x4).length ≤ maxLen; rw [pes_len]; exact m4, fun p hp => ?_, m5, g5, m6, g6, m7, g7⟩⟩
  · obtain ⟨p, hp, rfl⟩ := List.mem_map.1 hb
    exact g3 p hp
  · obtain ⟨x, hx, rfl⟩ := List.mem_map.1 hp
    exact g4 x hx
set_option maxRecDepth 100000 in
theorem cluster_open {H : Type} {enc : TypeId × Value → H} {W : World} {base : Nat} {v : Value} {d : DataW H} {p : List MemPlace} (hv : Value.okWide Try.prog W .any base 28 v) (h : DataW.Trod enc Try.prog W 0 (fun _ => true) true 28 v d p) :
    ∃ (c : CU) (s : CW), v = clusV c s ∧ ClusR W c s ∧ goodC c := by
  obtain ⟨cs, rfl, _⟩ := okWide_struct Try.underlying28 hv
  obtain ⟨n, hn⟩ := h
  obtain ⟨c, s, hy, hg⟩ := cluster_rd _ _ _ hn
  refine ⟨c, s, ?_, hg⟩
  have : cs.toList = clusL c s := hy
  unfold clusV
  rw [← Array.toArray_toList (xs := cs), this]
  rfl

end Go.Proofs.Ytcfgfhodbjakoav
