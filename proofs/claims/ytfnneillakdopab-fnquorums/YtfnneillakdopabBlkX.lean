/-
  Blocks in memory: seven cells a block, its commands in a row of their own.
-/
import Derived.Test.YtfnneillakdopabBlockN
import Derived.Test.YtfnneillakdopabCmdF
namespace Go.Proofs.Ytfnneillakdopab
open Go.RowKit Num

/-- a block as a value: cv the row of its commands -/
def blkV (b : BK) (cv : Value) : Value := .agg #[.int .i64 b.1.1, .int .i64 b.1.2, cv, .int .i64 b.2.2.1, .int .i64 b.2.2.2.1, .int .i64 b.2.2.2.2.1, .int .i64 b.2.2.2.2.2]
/-- .. as seven cells -/
def blkF (p : BK × Value) : List Value := [.int .i64 p.1.1.1, .int .i64 p.1.1.2, p.2, .int .i64 p.1.2.2.1, .int .i64 p.1.2.2.2.1, .int .i64 p.1.2.2.2.2.1, .int .i64 p.1.2.2.2.2.2]
theorem blkF_len (p : BK × Value) : (blkF p).length = 7 := rfl
/-- .. as an array of cells -/
abbrev blkA (b : BK) (cv : Value) : Array Value := #[.int .i64 b.1.1, .int .i64 b.1.2, cv, .int .i64 b.2.2.1, .int .i64 b.2.2.2.1, .int .i64 b.2.2.2.2.1, .int .i64 b.2.2.2.2.2]

/-- blocks, each with the row of its commands -/
abbrev TL := List (BK × Value)
def bks (ps : TL) : List BK := ps.map Prod.fst
theorem bks_len (ps : TL) : (bks ps).length = ps.length := by simp [bks]
theorem bks_at {ps : TL} {i : Nat} (h : i < ps.length) : (bks ps)[i]'(by rw [bks_len]; exact h) = ps[i].1 := by simp [bks]
theorem bks_take (ps : TL) (k : Nat) : bks (ps.take k) = (bks ps).take k := by simp [bks, List.map_take]

/-- blocks that can be read -/
def TreeQ (w : World) (v : Value) (ps : TL) : Prop := RowsR w v 7 blkF ps ∧ ∀ p ∈ ps, RowsR w p.2 3 cmdF p.1.2.1
theorem TreeQ.below {w w' : World} {v : Value} {ps : TL} (h : TreeQ w v ps) (hb : Below w.heap.size w w') : TreeQ w' v ps := ⟨h.1.below hb, fun p hp => (h.2 p hp).below hb⟩
/-- a slice's room is no less than its length -/
def capOk (v : Value) : Prop := ∀ a n cap, v = .slice a n cap → n ≤ cap
theorem capOk_own {w : World} {base m n : Nat} {e : TypeId} {v : Value} {xs : List Value} (h : w.ownsRow base e m v n xs) : capOk v := by
  obtain ⟨_, ⟨rfl, _⟩ | ⟨g, cap, cur, rfl, _, _, hn, _⟩⟩ := h
  · intro a n cap e; injection e with _ e2 e3; omega
  · intro a n' cap' e; injection e with _ e2 e3; omega
/-- a tree that can be read -/
structure TreeR (w : World) (v : Value) (ps : TL) : Prop where
  row : RowsR w v 7 blkF ps
  cmds : ∀ p ∈ ps, RowsR w p.2 3 cmdF p.1.2.1
  cap : capOk v
theorem TreeR.below {w w' : World} {v : Value} {ps : TL} (h : TreeR w v ps) (hb : Below w.heap.size w w') : TreeR w' v ps := ⟨h.row.below hb, fun p hp => (h.cmds p hp).below hb, h.cap⟩
theorem TreeR.q {w : World} {v : Value} {ps : TL} (h : TreeR w v ps) : TreeQ w v ps := ⟨h.row, h.cmds⟩
theorem RowsR.take {α : Type} {f : α → List Value} {m : Nat} {w : World} {a : Option Addr} {n cap : Nat} {xs : List α} (h : RowsR w (.slice a n cap) m f xs) (k : Nat) (hk : k ≤ xs.length) (c : Nat) : RowsR w (.slice a k c) m f (xs.take k) := by
  obtain ⟨a', cap', e, hr⟩ := h
  injection e with e1 e2 e3
  subst e1
  refine ⟨a, c, by rw [List.length_take, Nat.min_eq_left hk], fun h0 => ?_⟩
  rw [List.length_take] at h0
  obtain ⟨g, off, rfl, hg, hc⟩ := hr (by omega)
  refine ⟨g, off, rfl, hg, fun i hi j hj => ?_⟩
  rw [List.length_take] at hi
  rw [List.getElem_take]
  exact hc i (by omega) j hj
theorem TreeR.take {w : World} {a : Option Addr} {n cap : Nat} {ps : TL} (h : TreeR w (.slice a n cap) ps) (k : Nat) (hk : k ≤ ps.length) (c : Nat) (hc : k ≤ c) : TreeR w (.slice a k c) (ps.take k) :=
  ⟨h.row.take k hk c, fun p hp => h.cmds p (List.mem_of_mem_take hp), fun a' n' c' e => by injection e with _ e2 e3; omega⟩

/-- the seven cells of a block of a tree -/
theorem treeq_cells {w : World} {v : Value} {ps : TL} (h : TreeQ w v ps) : ∃ a cap, v = .slice a ps.length cap ∧ (0 < ps.length → ∃ g off, a = some ⟨g, off, none⟩ ∧ g < w.heap.size ∧ ∀ i (hi : i < ps.length),
    w.cell? ⟨g, off + i * 7, none⟩ = some (.int .i64 ps[i].1.1.1) ∧ w.cell? ⟨g, off + i * 7 + 1, none⟩ = some (.int .i64 ps[i].1.1.2) ∧ w.cell? ⟨g, off + i * 7 + 2, none⟩ = some ps[i].2 ∧ w.cell? ⟨g, off + i * 7 + 3, none⟩ = some (.int .i64 ps[i].1.2.2.1) ∧
    w.cell? ⟨g, off + i * 7 + 4, none⟩ = some (.int .i64 ps[i].1.2.2.2.1) ∧ w.cell? ⟨g, off + i * 7 + 5, none⟩ = some (.int .i64 ps[i].1.2.2.2.2.1) ∧ w.cell? ⟨g, off + i * 7 + 6, none⟩ = some (.int .i64 ps[i].1.2.2.2.2.2)) := by
  obtain ⟨a, cap, rfl, hr⟩ := h.1
  refine ⟨a, cap, rfl, fun h0 => ?_⟩
  obtain ⟨g, off, rfl, hg, hc⟩ := hr h0
  refine ⟨g, off, rfl, hg, fun i hi => ⟨?_, ?_, ?_, ?_, ?_, ?_, ?_⟩⟩
  · exact hc i hi 0 (by omega)
  · exact hc i hi 1 (by omega)
  · exact hc i hi 2 (by omega)
  · exact hc i hi 3 (by omega)
  · exact hc i hi 4 (by omega)
  · exact hc i hi 5 (by omega)
  · exact hc i hi 6 (by omega)
theorem tree_cells {w : World} {v : Value} {ps : TL} (h : TreeR w v ps) : ∃ a cap, v = .slice a ps.length cap ∧ ps.length ≤ cap ∧ (0 < ps.length → ∃ g off, a = some ⟨g, off, none⟩ ∧ g < w.heap.size ∧ ∀ i (hi : i < ps.length),
    w.cell? ⟨g, off + i * 7, none⟩ = some (.int .i64 ps[i].1.1.1) ∧ w.cell? ⟨g, off + i * 7 + 1, none⟩ = some (.int .i64 ps[i].1.1.2) ∧ w.cell? ⟨g, off + i * 7 + 2, none⟩ = some ps[i].2 ∧ w.cell? ⟨g, off + i * 7 + 3, none⟩ = some (.int .i64 ps[i].1.2.2.1) ∧
    w.cell? ⟨g, off + i * 7 + 4, none⟩ = some (.int .i64 ps[i].1.2.2.2.1) ∧ w.cell? ⟨g, off + i * 7 + 5, none⟩ = some (.int .i64 ps[i].1.2.2.2.2.1) ∧ w.cell? ⟨g, off + i * 7 + 6, none⟩ = some (.int .i64 ps[i].1.2.2.2.2.2)) := by
  have hcap := h.cap
  obtain ⟨a, cap, rfl, hr⟩ := treeq_cells h.q
  exact ⟨a, cap, rfl, hcap _ _ _ rfl, hr⟩

/-- a row of commands is a slice of this many -/
theorem rows_form {α : Type} {f : α → List Value} {m : Nat} {w : World} {v : Value} {xs : List α} (h : RowsR w v m f xs) : ∃ a cap, v = .slice a xs.length cap := by
  obtain ⟨a, cap, rfl, _⟩ := h; exact ⟨a, cap, rfl⟩

/-- a block just boxed: its seven cells -/
theorem box_cells {w w' : World} {A : Array Value} {t : TypeId} (h : Below (w.alloc (.cells A t)).heap.size (w.alloc (.cells A t)) w') : w'.heap[w.heap.size]? = some (.cells A t (0, 0)) := (h.block w.heap.size (by simp)).trans (heap_alloc_new w _)

/-- what is owned stays, where its block is as it was -/
theorem own_same {w w' : World} {base m n : Nat} {e : TypeId} {v : Value} {xs : List Value} (h : w.ownsRow base e m v n xs) (hk : ∀ g, v.ownBlock = some g → w'.heap[g]? = w.heap[g]?) : w'.ownsRow base e m v n xs := by
  obtain ⟨hl, h0 | ⟨g, cap, cur, rfl, hb, hh, r⟩⟩ := h
  · exact ⟨hl, Or.inl h0⟩
  · exact ⟨hl, Or.inr ⟨g, cap, cur, rfl, hb, (hk g rfl).trans hh, r⟩⟩

/-- only blocks from lo on, up to hi, are other than they were -/
structure Wn (lo hi : Nat) (w w' : World) : Prop where
  os : w'.os = w.os
  tape : w'.tape = w.tape
  output : w'.output = w.output
  size : w.heap.size ≤ w'.heap.size
  block : ∀ k, k < w.heap.size → (k < lo ∨ hi ≤ k) → w'.heap[k]? = w.heap[k]?
theorem Wn.of_below {lo hi : Nat} {w w' : World} (h : Below w.heap.size w w') : Wn lo hi w w' := ⟨h.os, h.tape, h.output, h.size, fun k hk _ => h.block k hk⟩
theorem Wn.of_grown {lo hi : Nat} {w w' : World} {r : Option Nat} (h : w.grownBy w' r) (hr : ∀ g, r = some g → lo ≤ g ∧ g < hi) : Wn lo hi w w' :=
  ⟨h.os, h.tape, h.output, h.size, fun k hk hne => h.block k hk fun e => by have := hr k e.symm; omega⟩
theorem Wn.trans {lo hi : Nat} {a b c : World} (h : Wn lo hi a b) (k : Wn lo hi b c) : Wn lo hi a c :=
  ⟨k.os.trans h.os, k.tape.trans h.tape, k.output.trans h.output, Nat.le_trans h.size k.size, fun i hi' hne => (k.block i (Nat.lt_of_lt_of_le hi' h.size) hne).trans (h.block i hi' hne)⟩
theorem Wn.below {lo hi n : Nat} {w w1 w2 : World} (hb : Below n w w1) (h : Wn lo hi w1 w2) (hn : n ≤ lo) (hs : n ≤ w1.heap.size) : Below n w w2 :=
  ⟨h.os.trans hb.os, h.tape.trans hb.tape, h.output.trans hb.output, Nat.le_trans hb.size h.size, fun k hk => (h.block k (by omega) (by omega)).trans (hb.block k hk)⟩

/-- a tree of the call's own -/
structure OwnT (w : World) (base : Nat) (v : Value) (ps : TL) : Prop where
  row : w.ownsRow base 33 7 v ps.length (flatR blkF ps)
  cmds : ∀ p ∈ ps, w.ownsRow base 103 3 p.2 p.1.2.1.length (flatR cmdF p.1.2.1)
  apart : ps.Pairwise fun p q => q.2.ownBlock = none ∨ q.2.ownBlock ≠ p.2.ownBlock
theorem OwnT.read {w : World} {base : Nat} {v : Value} {ps : TL} (h : OwnT w base v ps) : TreeR w v ps := ⟨rows_of_own blkF_len h.row, fun p hp => rows_of_own cmdF_len (h.cmds p hp), capOk_own h.row⟩
theorem OwnT.same {w w' : World} {base : Nat} {v : Value} {ps : TL} (h : OwnT w base v ps) (hk : ∀ g, base ≤ g → g < w.heap.size → w'.heap[g]? = w.heap[g]?) : OwnT w' base v ps :=
  ⟨own_same h.row fun g hg => hk g (h.row.lt g hg).1 (h.row.lt g hg).2, fun p hp => own_same (h.cmds p hp) fun g hg => hk g ((h.cmds p hp).lt g hg).1 ((h.cmds p hp).lt g hg).2, h.apart⟩
theorem OwnT.below {w w' : World} {base : Nat} {v : Value} {ps : TL} (h : OwnT w base v ps) (hb : Below w.heap.size w w') : OwnT w' base v ps := h.same fun g _ hg => hb.block g hg
theorem OwnT.base {w : World} {base base' : Nat} {v : Value} {ps : TL} (h : OwnT w base v ps) (hb : base' ≤ base) : OwnT w base' v ps := ⟨own_base h.row hb, fun p hp => own_base (h.cmds p hp) hb, h.apart⟩

end Go.Proofs.Ytfnneillakdopab
