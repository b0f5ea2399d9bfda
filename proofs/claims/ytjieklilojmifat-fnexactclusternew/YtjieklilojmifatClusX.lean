/-
  A cluster: its plain value, its eight cells, its lists in memory; one that came in; one of the call's own. (Made by gcl15.py.)
-/
import Derived.Test.YtjieklilojmifatJ2
import Derived.Test.YtjieklilojmifatTreeM
import Derived.Test.YtjieklilojmifatBlkW
import Derived.Test.YtjieklilojmifatBlkOpen
import Derived.Test.YtjieklilojmifatCmdOpen
namespace Go.Proofs.Ytjieklilojmifat
open Go.ChangeShapes Go.WideShapes Go.ChangeAt Go.RowKit Num

structure CU where
  n : Int
  chain : Bool
  liars : Int
  tree : List BK
  peers : List PE
  net : List LT
  said : List VT
  pend : List CM
/-- its lists in memory -/
structure CW where
  treeV : Value
  tree : TL
  peersV : Value
  peers : PL
  net : Value
  said : Value
  pend : Value
def clusA (c : CU) (s : CW) : Array Value := #[.int .i64 c.n, .bool c.chain, .int .i64 c.liars, s.treeV, s.peersV, s.net, s.said, s.pend]
def clusL (c : CU) (s : CW) : List Value := [.int .i64 c.n, .bool c.chain, .int .i64 c.liars, s.treeV, s.peersV, s.net, s.said, s.pend]
abbrev clusV (c : CU) (s : CW) : Value := .agg (clusA c s)
/-- its lists can be read -/
structure ClusR (w : World) (c : CU) (s : CW) : Prop where
  etree : bks s.tree = c.tree
  tree : TreeQ w s.treeV s.tree
  epeers : pes s.peers = c.peers
  peers : PeersR w s.peersV s.peers
  net : RowsR w s.net 13 letF c.net
  said : RowsR w s.said 4 voteF c.said
  pend : RowsR w s.pend 3 cmdF c.pend
theorem ClusR.below {w w' : World} {c : CU} {s : CW} (h : ClusR w c s) (hb : Below w.heap.size w w') : ClusR w' c s := ⟨h.etree, h.tree.below hb, h.epeers, h.peers.below hb, h.net.below hb, h.said.below hb, h.pend.below hb⟩
/-- its lists are no longer than they can be, its numbers are numbers of this machine -/
structure goodC (c : CU) : Prop where
  n : (Lit.int .i64 c.n).wf = true
  liars : (Lit.int .i64 c.liars).wf = true
  ltree : c.tree.length ≤ maxLen
  tree : ∀ b ∈ c.tree, goodBk b ∧ wfB b
  lpeers : c.peers.length ≤ maxLen
  peers : ∀ p ∈ c.peers, goodPe p
  lnet : c.net.length ≤ maxLen
  net : ∀ l ∈ c.net, wfL l
  lsaid : c.said.length ≤ maxLen
  said : ∀ v ∈ c.said, wfV v
  lpend : c.pend.length ≤ maxLen
  pend : ∀ x ∈ c.pend, goodCmd x
/-- how much it weighs -/
def wtCl (c : CU) : Nat := wtB c.tree + c.peers.length + lenPs c.peers + c.net.length + c.said.length + c.pend.length
/-- its lists are short -/
structure okC (c : CU) : Prop where
  tree : okT c.tree
  lpeers : (c.peers.length : Int) ≤ 1048576
  peers : ∀ p ∈ c.peers, smallPe p
  net : (c.net.length : Int) ≤ 1048576
  said : (c.said.length : Int) ≤ 1048576
  pend : (c.pend.length : Int) ≤ 1048576 ∧ ∀ x ∈ c.pend, (x.2.1.size : Int) ≤ 1048576
/-- the blocks of its five parts -/
def inPeers (v : Value) (ps : PL) (g : Nat) : Prop := v.ownBlock = some g ∨ ∃ x ∈ ps, inSix x.2 g
def partC (s : CW) : Nat → Nat → Prop
  | 0, g => inTree s.treeV s.tree g
  | 1, g => inPeers s.peersV s.peers g
  | 2, g => s.net.ownBlock = some g
  | 3, g => s.said.ownBlock = some g
  | _, g => s.pend.ownBlock = some g
/-- a cluster of the call's own: its parts lie apart, between lo and hi -/
structure OwnC (lo hi : Nat) (w : World) (c : CU) (s : CW) : Prop where
  etree : bks s.tree = c.tree
  tree : OwnT w lo s.treeV s.tree
  epeers : pes s.peers = c.peers
  peers : OwnPs lo w s.peersV s.peers
  net : w.ownsRow lo 43 13 s.net c.net.length (flatR letF c.net)
  said : w.ownsRow lo 35 4 s.said c.said.length (flatR voteF c.said)
  pend : w.ownsRow lo 134 3 s.pend c.pend.length (flatR cmdF c.pend)
  dis : ∀ i j g, i < 5 → j < 5 → partC s i g → partC s j g → i = j
  lim : ∀ i g, i < 5 → partC s i g → lo ≤ g ∧ g < hi
  size : hi ≤ w.heap.size
theorem OwnC.reads {lo hi : Nat} {w : World} {c : CU} {s : CW} (h : OwnC lo hi w c s) : ClusR w c s := ⟨h.etree, h.tree.read.q, h.epeers, h.peers.reads, rows_of_own letF_len h.net, rows_of_own voteF_len h.said, rows_of_own cmdF_len h.pend⟩
theorem OwnC.below {lo hi : Nat} {w w' : World} {c : CU} {s : CW} (h : OwnC lo hi w c s) (hb : Below w.heap.size w w') : OwnC lo hi w' c s := ⟨h.etree, h.tree.below hb, h.epeers, h.peers.below hb, own_kept h.net hb, own_kept h.said hb, own_kept h.pend hb, h.dis, h.lim, Nat.le_trans h.size hb.size⟩
/-- what is written outside of some of its parts -/
theorem OwnC.frs {lo hi : Nat} {w w' : World} {c : CU} {s : CW} {B : Nat → Prop} (h : OwnC lo hi w c s) (hf : FrS B w w') (hB : ∀ i g, i < 5 → partC s i g → ¬ B g) : OwnC lo hi w' c s :=
  ⟨h.etree, h.tree.frs hf (fun g hg => hB 0 g (by omega) hg), h.epeers, h.peers.frs hf (fun g hg => hB 1 g (by omega) (Or.inl hg)) (fun x hx g hg => hB 1 g (by omega) (Or.inr ⟨x, hx, hg⟩)), hf.own h.net (fun g hg => hB 2 g (by omega) hg), hf.own h.said (fun g hg => hB 3 g (by omega) hg), hf.own h.pend (fun g hg => hB 4 g (by omega) hg), h.dis, h.lim, Nat.le_trans h.size hf.size⟩
theorem OwnC.fr {lo hi a b : Nat} {w w' : World} {c : CU} {s : CW} (h : OwnC lo hi w c s) (hf : Fr a b w w') (hN : hi ≤ a ∨ b ≤ lo) : OwnC lo hi w' c s :=
  h.frs (B := fun g => a ≤ g ∧ g < b) ⟨hf.os, hf.tape, hf.output, hf.size, fun k hk hn => hf.block k hk (by omega)⟩ (fun i g hi hg hB => by have := h.lim i g hi hg; omega)
theorem OwnC.boxed {lo hi N : Nat} {w w' : World} {c : CU} {s : CW} (h : OwnC lo hi w c s) (hg : w.grownBy w' (some N)) (hN : N < lo ∨ hi ≤ N) : OwnC lo hi w' c s :=
  h.frs (B := fun k => k = N) (FrS.of_grown hg (fun k e => by cases e; rfl)) (fun i g hi hg hB => by have := h.lim i g hi hg; omega)
theorem OwnC.wide {lo hi hi' : Nat} {w : World} {c : CU} {s : CW} (h : OwnC lo hi w c s) (hh : hi ≤ hi') (hs : hi' ≤ w.heap.size) : OwnC lo hi' w c s := ⟨h.etree, h.tree, h.epeers, h.peers, h.net, h.said, h.pend, h.dis, fun i g hi hg => by have := h.lim i g hi hg; omega, hs⟩
theorem OwnC.low {lo lo' hi : Nat} {w : World} {c : CU} {s : CW} (h : OwnC lo hi w c s) (hl : lo' ≤ lo) : OwnC lo' hi w c s := ⟨h.etree, h.tree.base hl, h.epeers, h.peers.low hl, own_base h.net hl, own_base h.said hl, own_base h.pend hl, h.dis, fun i g hi hg => by have := h.lim i g hi hg; omega, h.size⟩
theorem inPeers_ge {lo : Nat} {w : World} {v : Value} {ps : PL} (h : OwnPs lo w v ps) {g : Nat} (hg : inPeers v ps g) : lo ≤ g ∧ g < w.heap.size := by
  rcases hg with hg | ⟨x, hx, a, ha, e⟩
  · exact h.row.lt g hg
  · exact six_in (h.own.each x hx).2.1 a ha g e
theorem inTree_ge {lo : Nat} {w : World} {v : Value} {ps : TL} (h : OwnT w lo v ps) {g : Nat} (hg : inTree v ps g) : lo ≤ g ∧ g < w.heap.size := by
  rcases hg with hg | ⟨p, hp, e⟩
  · exact h.row.lt g hg
  · exact (h.cmds p hp).lt g e
/-- its parts were made one behind the other -/
theorem ownC_of {b0 b1 b2 b3 b4 b5 : Nat} {w : World} {c : CU} {s : CW} (e0 : bks s.tree = c.tree) (t : OwnT w b0 s.treeV s.tree) (lt : ∀ g, inTree s.treeV s.tree g → g < b1) (e1 : pes s.peers = c.peers) (p : OwnPs b1 w s.peersV s.peers) (lp : ∀ g, inPeers s.peersV s.peers g → g < b2)
    (n : w.ownsRow b2 43 13 s.net c.net.length (flatR letF c.net)) (ln : ∀ g, s.net.ownBlock = some g → g < b3) (d : w.ownsRow b3 35 4 s.said c.said.length (flatR voteF c.said)) (ld : ∀ g, s.said.ownBlock = some g → g < b4) (q : w.ownsRow b4 134 3 s.pend c.pend.length (flatR cmdF c.pend)) (lq : ∀ g, s.pend.ownBlock = some g → g < b5)
    (h0 : b0 ≤ b1) (h1 : b1 ≤ b2) (h2 : b2 ≤ b3) (h3 : b3 ≤ b4) (h4 : b4 ≤ b5) (h5 : b5 ≤ w.heap.size) : OwnC b0 b5 w c s := by
  have bd : ∀ i g, i < 5 → partC s i g → (i = 0 ∧ b0 ≤ g ∧ g < b1) ∨ (i = 1 ∧ b1 ≤ g ∧ g < b2) ∨ (i = 2 ∧ b2 ≤ g ∧ g < b3) ∨ (i = 3 ∧ b3 ≤ g ∧ g < b4) ∨ (i = 4 ∧ b4 ≤ g ∧ g < b5) := fun i g hi hg => by
    match i, hi with
    | 0, _ => exact Or.inl ⟨rfl, (inTree_ge t hg).1, lt g hg⟩
    | 1, _ => exact Or.inr (Or.inl ⟨rfl, (inPeers_ge p hg).1, lp g hg⟩)
    | 2, _ => exact Or.inr (Or.inr (Or.inl ⟨rfl, (n.lt g hg).1, ln g hg⟩))
    | 3, _ => exact Or.inr (Or.inr (Or.inr (Or.inl ⟨rfl, (d.lt g hg).1, ld g hg⟩)))
    | 4, _ => exact Or.inr (Or.inr (Or.inr (Or.inr ⟨rfl, (q.lt g hg).1, lq g hg⟩)))
  refine ⟨e0, t, e1, p.low (by omega), own_base n (by omega), own_base d (by omega), own_base q (by omega), fun i j g hi hj h1 h2 => ?_, fun i g hi hg => ?_, h5⟩
  · have := bd i g hi h1
    have := bd j g hj h2
    omega
  · have := bd i g hi hg
    omega


end Go.Proofs.Ytjieklilojmifat
