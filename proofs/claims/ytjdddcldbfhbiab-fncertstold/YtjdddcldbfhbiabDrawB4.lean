/-
  Trees that are drawn and bent.
-/
import Derived.Test.YtjdddcldbfhbiabDrawB3
import Derived.Deep.AppendLies
namespace Go.Proofs.Ytjdddcldbfhbiab
open Go.RowKit Num

/-- a tree's row and its commands' rows are the call's own -/
structure OwnU (w : World) (base : Nat) (v : Value) (ps : TL) : Prop where
  row : w.ownsRow base 33 7 v ps.length (flatR blkF ps)
  cmds : ∀ p ∈ ps, w.ownsRow base 103 3 p.2 p.1.2.1.length (flatR cmdF p.1.2.1)
theorem OwnT.u {w : World} {base : Nat} {v : Value} {ps : TL} (h : OwnT w base v ps) : OwnU w base v ps := ⟨h.row, h.cmds⟩
theorem OwnU.read {w : World} {base : Nat} {v : Value} {ps : TL} (h : OwnU w base v ps) : TreeR w v ps := ⟨rows_of_own blkF_len h.row, fun p hp => rows_of_own cmdF_len (h.cmds p hp), capOk_own h.row⟩
theorem OwnU.same {w w' : World} {base : Nat} {v : Value} {ps : TL} (h : OwnU w base v ps) (hk : ∀ g, base ≤ g → g < w.heap.size → w'.heap[g]? = w.heap[g]?) : OwnU w' base v ps :=
  ⟨own_same h.row fun g hg => hk g (h.row.lt g hg).1 (h.row.lt g hg).2, fun p hp => own_same (h.cmds p hp) fun g hg => hk g ((h.cmds p hp).lt g hg).1 ((h.cmds p hp).lt g hg).2⟩
theorem OwnU.below {w w' : World} {base : Nat} {v : Value} {ps : TL} (h : OwnU w base v ps) (hb : Below w.heap.size w w') : OwnU w' base v ps := h.same fun g _ hg => hb.block g hg
theorem OwnU.st {w w' : World} {base B : Nat} {v : Value} {ps : TL} (h : OwnU w base v ps) (hg : w.grownBy w' (Option.some B)) (hB : B < base) : OwnU w' base v ps :=
  h.same fun g hgb hl => hg.block g hl fun e => by have := Option.some.inj e; omega
theorem OwnU.base {w : World} {base base' : Nat} {v : Value} {ps : TL} (h : OwnU w base v ps) (hb : base' ≤ base) : OwnU w base' v ps := ⟨own_base h.row hb, fun p hp => own_base (h.cmds p hp) hb⟩

/-- one cell of a block is set -/
theorem flat_set1 {L : TL} {k j : Nat} (hk : k < L.length) (hj : j < 7) (u : Value) (p : BK × Value) (hp : blkF p = (blkF L[k]).set j u) : (flatR blkF L).set (k * 7 + j) u = flatR blkF (L.set k p) := by
  have e1 : L = L.take k ++ L[k] :: L.drop (k + 1) := by rw [← List.drop_eq_getElem_cons hk, List.take_append_drop]
  have hl : (L.take k).length = k := by rw [List.length_take]; omega
  have hf : (flatR blkF (L.take k)).length = k * 7 := by rw [flatR_len blkF_len, hl]
  have e2 : L.set k p = L.take k ++ p :: L.drop (k + 1) := by
    conv => lhs; rw [e1]
    rw [List.set_append_right _ _ (by omega), hl, Nat.sub_self, List.set_cons_zero]
  have e3 : flatR blkF L = flatR blkF (L.take k) ++ (blkF L[k] ++ flatR blkF (L.drop (k + 1))) := by
    conv => lhs; rw [e1]
    rw [flatR_append]; rfl
  have e4 : flatR blkF (p :: L.drop (k + 1)) = blkF p ++ flatR blkF (L.drop (k + 1)) := rfl
  rw [e2, e3, flatR_append, e4, hp, ← hf, List.set_append_right _ _ (by omega), Nat.add_sub_cancel_left, List.set_append_left _ _ (by rw [blkF_len]; exact hj)]
/-- .. in memory, its commands' row left -/
theorem OwnU.set1 {w : World} {base g n cap k j : Nat} {L : TL} (h : OwnU w base (.slice (some ⟨g, 0, none⟩) n cap) L) (hk : k < L.length) (hj : j < 7) (u : Value) (b' : BK) (hb : b'.2.1 = L[k].1.2.1) (hp : blkF (b', L[k].2) = (blkF L[k]).set j u) (hn : n = L.length) :
    OwnU (w.setCell ⟨g, k * 7 + j, none⟩ u) base (.slice (some ⟨g, 0, none⟩) n cap) (L.set k (b', L[k].2)) ∧ w.grownBy (w.setCell ⟨g, k * 7 + j, none⟩ u) (some g) ∧ (∃ x, w.cell? ⟨g, k * 7 + j, none⟩ = some x) ∧ w.frozen? ⟨g, k * 7 + j, none⟩ = false := by
  subst hn
  have hr := h.row
  have hs := hr.stored (k * 7 + j) u
  rw [flat_set1 hk hj u (b', L[k].2) hp] at hs
  refine ⟨⟨by rw [List.length_set]; exact hs.1, fun p hp' => ?_⟩, hs.2, ?_, (own_cell hr (k * 7 + j) (by omega)).2⟩
  · rcases List.mem_or_eq_of_mem_set hp' with h1 | rfl
    · exact World.ownsRow.kept (h.cmds p h1) hs.2 (own_kind (h.cmds p h1) hr ne_ids)
    · have h1 := h.cmds _ (List.getElem_mem hk)
      rw [hb]
      exact World.ownsRow.kept h1 hs.2 (own_kind h1 hr ne_ids)
  · rw [(own_cell hr (k * 7 + j) (by omega)).1, flatR_at blkF_len L k hk j hj]
    exact ⟨_, List.getElem?_eq_getElem (by rw [blkF_len]; exact hj)⟩

/-- a tree that is drawn and bent -/
def BT (t : List BK) (n : Nat) : Prop := 0 < t.length ∧ t.length ≤ n ∧ ∀ b ∈ t, b.2.1.length ≤ 5 ∧ (∀ c ∈ b.2.1, c.2.1.size ≤ 4) ∧ 0 ≤ b.1.2 ∧ b.1.2 ≤ 1000
theorem Drw.bt {t : List BK} (h : Drw t 9) : BT t 9 := ⟨h.pos, h.len, fun b hb => by
  have hs := h.small b hb
  obtain ⟨i, hi, rfl⟩ := List.mem_iff_getElem.1 hb
  have hv := h.views i hi
  have hl := h.len
  exact ⟨by have := hs.1; omega, fun c hc => by have := (hs.2 c hc).2; omega, hv.1, by omega⟩⟩
theorem BT.ok {t : List BK} {n : Nat} (h : BT t n) (hn : n ≤ 1000) : okT t := ⟨by have := h.2.1; omega, fun b hb => ⟨by have := (h.2.2 b hb).1; omega, fun c hc => by have := (h.2.2 b hb).2.1 c hc; omega⟩⟩
theorem BT.le {t : List BK} {n m : Nat} (h : BT t n) (hm : n ≤ m) : BT t m := ⟨h.1, by have := h.2.1; omega, h.2.2⟩
theorem BT.set {L : TL} {n k : Nat} {p : BK × Value} (h : BT (bks L) n) (hp : p.1.2.1.length ≤ 5 ∧ (∀ c ∈ p.1.2.1, c.2.1.size ≤ 4) ∧ 0 ≤ p.1.1.2 ∧ p.1.1.2 ≤ 1000) : BT (bks (L.set k p)) n := by
  refine ⟨by rw [bks_len, List.length_set, ← bks_len]; exact h.1, by rw [bks_len, List.length_set, ← bks_len]; exact h.2.1, fun b hb => ?_⟩
  obtain ⟨q, hq, rfl⟩ := List.mem_map.1 hb
  rcases List.mem_or_eq_of_mem_set hq with h1 | rfl
  · exact h.2.2 _ (List.mem_map.2 ⟨q, h1, rfl⟩)
  · exact hp
theorem BT.at {L : TL} {n k : Nat} (h : BT (bks L) n) (hk : k < L.length) : L[k].1.2.1.length ≤ 5 ∧ (∀ c ∈ L[k].1.2.1, c.2.1.size ≤ 4) ∧ 0 ≤ L[k].1.1.2 ∧ L[k].1.1.2 ≤ 1000 := h.2.2 _ (List.mem_map.2 ⟨L[k], List.getElem_mem hk, rfl⟩)

/-- the seven cells of a block of a row of the call's own -/
theorem own_blk {w : World} {base g n cap k : Nat} {L : TL} {e : TypeId} (h : w.ownsRow base e 7 (.slice (some ⟨g, 0, none⟩) n cap) n (flatR blkF L)) (hn : n = L.length) (hk : k < L.length) :
    w.cell? ⟨g, k * 7, none⟩ = some (.int .i64 L[k].1.1.1) ∧ w.cell? ⟨g, k * 7 + 1, none⟩ = some (.int .i64 L[k].1.1.2) ∧ w.cell? ⟨g, k * 7 + 2, none⟩ = some L[k].2 ∧ w.cell? ⟨g, k * 7 + 3, none⟩ = some (.int .i64 L[k].1.2.2.1) ∧ w.cell? ⟨g, k * 7 + 4, none⟩ = some (.int .i64 L[k].1.2.2.2.1) ∧ w.cell? ⟨g, k * 7 + 5, none⟩ = some (.int .i64 L[k].1.2.2.2.2.1) ∧ w.cell? ⟨g, k * 7 + 6, none⟩ = some (.int .i64 L[k].1.2.2.2.2.2) := by
  subst hn
  refine ⟨?_, ?_, ?_, ?_, ?_, ?_, ?_⟩
  · have := (own_cell h (k * 7 + 0) (by omega)).1.trans (flatR_at blkF_len L k hk 0 (by omega)); exact this
  · exact (own_cell h (k * 7 + 1) (by omega)).1.trans (flatR_at blkF_len L k hk 1 (by omega))
  · exact (own_cell h (k * 7 + 2) (by omega)).1.trans (flatR_at blkF_len L k hk 2 (by omega))
  · exact (own_cell h (k * 7 + 3) (by omega)).1.trans (flatR_at blkF_len L k hk 3 (by omega))
  · exact (own_cell h (k * 7 + 4) (by omega)).1.trans (flatR_at blkF_len L k hk 4 (by omega))
  · exact (own_cell h (k * 7 + 5) (by omega)).1.trans (flatR_at blkF_len L k hk 5 (by omega))
  · exact (own_cell h (k * 7 + 6) (by omega)).1.trans (flatR_at blkF_len L k hk 6 (by omega))
/-- a block's commands are written anew -/
theorem OwnT.cmds3 {w5 w6 : World} {base g n cap k : Nat} {L : TL} {o : Obj} {v' : Value} {l' : List CM} (h : OwnT w5 base (.slice (some ⟨g, 0, none⟩) n cap) L) (hn : n = L.length) (hk : k < L.length) (hg : (w5.alloc o).grownBy w6 L[k].2.ownBlock)
    (own6 : w6.ownsRow base 103 3 v' l'.length (flatR cmdF l')) :
    OwnU (w6.setCell ⟨g, k * 7 + 2, none⟩ v') base (.slice (some ⟨g, 0, none⟩) n cap) (L.set k ((L[k].1.1, (l', L[k].1.2.2)), v')) ∧ w6.grownBy (w6.setCell ⟨g, k * 7 + 2, none⟩ v') (some g) ∧ w6.cell? ⟨g, k * 7 + 2, none⟩ = some L[k].2 ∧ w6.frozen? ⟨g, k * 7 + 2, none⟩ = false := by
  subst hn
  have hc0 := h.cmds _ (List.getElem_mem hk)
  have hr := World.ownsRow.kept (World.ownsRow.alloc h.row o) hg (own_kind (World.ownsRow.alloc h.row o) (World.ownsRow.alloc hc0 o) ne_ids.symm)
  have hs := hr.stored (k * 7 + 2) v'
  rw [flat_set1 hk (by omega) v' ((L[k].1.1, (l', L[k].1.2.2)), v') rfl] at hs
  have hap := List.pairwise_iff_getElem.1 h.apart
  refine ⟨⟨by rw [List.length_set]; exact hs.1, fun p hp' => ?_⟩, hs.2, (own_blk hr rfl hk).2.2.1, (own_cell hr (k * 7 + 2) (by omega)).2⟩
  obtain ⟨j, hj, rfl⟩ := List.mem_iff_getElem.1 hp'
  rw [List.length_set] at hj
  by_cases e : k = j
  · subst e
    rw [List.getElem_set_self]
    exact World.ownsRow.kept own6 hs.2 (own_kind own6 hr ne_ids)
  · rw [List.getElem_set_ne e]
    have h0 := World.ownsRow.alloc (h.cmds _ (List.getElem_mem hj)) o
    have h1 := World.ownsRow.kept h0 hg (by
      rcases Nat.lt_or_gt_of_ne e with l | l
      · exact hap k j hk hj l
      · rcases hap j k hj hk l with q | q
        · by_cases hz : L[j].2.ownBlock = none
          · exact Or.inl hz
          · exact Or.inr (by rw [q]; exact hz)
        · exact Or.inr fun q' => q q'.symm)
    exact World.ownsRow.kept h1 hs.2 (own_kind h1 hr ne_ids)
theorem BT.snoc {L : TL} {n : Nat} {p : BK × Value} (h : BT (bks L) n) (hp : p.1.2.1.length ≤ 5 ∧ (∀ c ∈ p.1.2.1, c.2.1.size ≤ 4) ∧ 0 ≤ p.1.1.2 ∧ p.1.1.2 ≤ 1000) : BT (bks (L ++ [p])) (n + 1) := by
  rw [bks_snoc]
  refine ⟨by simp, by have := h.2.1; simp; omega, fun b hb => ?_⟩
  rcases List.mem_append.1 hb with h1 | h1
  · exact h.2.2 b h1
  · simp at h1; subst h1; exact hp

end Go.Proofs.Ytjdddcldbfhbiab
