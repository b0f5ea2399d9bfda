/-
  Rows of blocks that are marked: what the marks leave.
-/
import Derived.Test.YtcfgfhodbjakoavBlkTS
import Derived.Test.YtcfgfhodbjakoavCmdsH
namespace Go.Proofs.Ytcfgfhodbjakoav
open Go.RowKit Num

/-- two cells of a block of a row of the call's own, set one behind the other -/
theorem own_front {w : World} {base g n cap : Nat} {e : TypeId} {xs : List Value} (h : w.ownsRow base e 7 (.slice (some ⟨g, 0, none⟩) n cap) n xs) (k : Nat) (hk : k < n) (a0 a1 : Value) :
    ∃ u0 u1, (w.cell? ⟨g, k * 7, none⟩ = some u0 ∧ w.frozen? ⟨g, k * 7, none⟩ = false) ∧ ((w.setCell ⟨g, k * 7, none⟩ a0).cell? ⟨g, k * 7 + 1, none⟩ = some u1 ∧ (w.setCell ⟨g, k * 7, none⟩ a0).frozen? ⟨g, k * 7 + 1, none⟩ = false) ∧ ((w.setCell ⟨g, k * 7, none⟩ a0).setCell ⟨g, k * 7 + 1, none⟩ a1).ownsRow base e 7 (.slice (some ⟨g, 0, none⟩) n cap) n ((xs.set (k * 7) a0).set (k * 7 + 1) a1) ∧ w.grownBy ((w.setCell ⟨g, k * 7, none⟩ a0).setCell ⟨g, k * 7 + 1, none⟩ a1) (some g) := by
  have hl := h.1
  have b0 : k * 7 < xs.length := by omega
  have b1 : k * 7 + 1 < xs.length := by omega
  have s0 := h.stored (k * 7) a0
  have s1 := s0.1.stored (k * 7 + 1) a1
  refine ⟨xs[k * 7], xs[k * 7 + 1], ⟨?_, h.frozenAt _⟩, ⟨?_, s0.1.frozenAt _⟩, s1.1, (grown_trans s0.2 s1.2)⟩
  · rw [h.cellAt _ (by omega), List.getElem?_eq_getElem b0]
  · rw [s0.1.cellAt _ (by omega), List.getElem?_set_ne (by omega), List.getElem?_eq_getElem b1]
/-- .. and four -/
theorem own_back {w : World} {base g n cap : Nat} {e : TypeId} {xs : List Value} (h : w.ownsRow base e 7 (.slice (some ⟨g, 0, none⟩) n cap) n xs) (k : Nat) (hk : k < n) (a3 a4 a5 a6 : Value) :
    ∃ u3 u4 u5 u6, (w.cell? ⟨g, k * 7 + 3, none⟩ = some u3 ∧ w.frozen? ⟨g, k * 7 + 3, none⟩ = false) ∧ ((w.setCell ⟨g, k * 7 + 3, none⟩ a3).cell? ⟨g, k * 7 + 4, none⟩ = some u4 ∧ (w.setCell ⟨g, k * 7 + 3, none⟩ a3).frozen? ⟨g, k * 7 + 4, none⟩ = false) ∧ (((w.setCell ⟨g, k * 7 + 3, none⟩ a3).setCell ⟨g, k * 7 + 4, none⟩ a4).cell? ⟨g, k * 7 + 5, none⟩ = some u5 ∧ ((w.setCell ⟨g, k * 7 + 3, none⟩ a3).setCell ⟨g, k * 7 + 4, none⟩ a4).frozen? ⟨g, k * 7 + 5, none⟩ = false) ∧ ((((w.setCell ⟨g, k * 7 + 3, none⟩ a3).setCell ⟨g, k * 7 + 4, none⟩ a4).setCell ⟨g, k * 7 + 5, none⟩ a5).cell? ⟨g, k * 7 + 6, none⟩ = some u6 ∧ (((w.setCell ⟨g, k * 7 + 3, none⟩ a3).setCell ⟨g, k * 7 + 4, none⟩ a4).setCell ⟨g, k * 7 + 5, none⟩ a5).frozen? ⟨g, k * 7 + 6, none⟩ = false) ∧ ((((w.setCell ⟨g, k * 7 + 3, none⟩ a3).setCell ⟨g, k * 7 + 4, none⟩ a4).setCell ⟨g, k * 7 + 5, none⟩ a5).setCell ⟨g, k * 7 + 6, none⟩ a6).ownsRow base e 7 (.slice (some ⟨g, 0, none⟩) n cap) n ((((xs.set (k * 7 + 3) a3).set (k * 7 + 4) a4).set (k * 7 + 5) a5).set (k * 7 + 6) a6) ∧ w.grownBy ((((w.setCell ⟨g, k * 7 + 3, none⟩ a3).setCell ⟨g, k * 7 + 4, none⟩ a4).setCell ⟨g, k * 7 + 5, none⟩ a5).setCell ⟨g, k * 7 + 6, none⟩ a6) (some g) := by
  have hl := h.1
  have b3 : k * 7 + 3 < xs.length := by omega
  have b4 : k * 7 + 4 < xs.length := by omega
  have b5 : k * 7 + 5 < xs.length := by omega
  have b6 : k * 7 + 6 < xs.length := by omega
  have s0 := h.stored (k * 7 + 3) a3
  have s1 := s0.1.stored (k * 7 + 4) a4
  have s2 := s1.1.stored (k * 7 + 5) a5
  have s3 := s2.1.stored (k * 7 + 6) a6
  refine ⟨xs[k * 7 + 3], xs[k * 7 + 4], xs[k * 7 + 5], xs[k * 7 + 6], ⟨?_, h.frozenAt _⟩, ⟨?_, s0.1.frozenAt _⟩, ⟨?_, s1.1.frozenAt _⟩, ⟨?_, s2.1.frozenAt _⟩, s3.1, (grown_trans (grown_trans (grown_trans s0.2 s1.2) s2.2) s3.2)⟩
  · rw [h.cellAt _ (by omega), List.getElem?_eq_getElem b3]
  · rw [s0.1.cellAt _ (by omega), List.getElem?_set_ne (by omega), List.getElem?_eq_getElem b4]
  · rw [s1.1.cellAt _ (by omega), List.getElem?_set_ne (by omega), List.getElem?_set_ne (by omega), List.getElem?_eq_getElem b5]
  · rw [s2.1.cellAt _ (by omega), List.getElem?_set_ne (by omega), List.getElem?_set_ne (by omega), List.getElem?_set_ne (by omega), List.getElem?_eq_getElem b6]


/-- six cells of a block set, its commands' row left -/
theorem flat_set {L : TL} {k : Nat} (hk : k < L.length) (p : BK × Value) (hp : p.2 = L[k].2) : (((((((flatR blkF L).set (k * 7) (.int .i64 p.1.1.1)).set (k * 7 + 1) (.int .i64 p.1.1.2)).set (k * 7 + 3) (.int .i64 p.1.2.2.1)).set (k * 7 + 4) (.int .i64 p.1.2.2.2.1)).set (k * 7 + 5) (.int .i64 p.1.2.2.2.2.1)).set (k * 7 + 6) (.int .i64 p.1.2.2.2.2.2)) = flatR blkF (L.set k p) := by
  have e1 : L = L.take k ++ L[k] :: L.drop (k + 1) := by rw [← List.drop_eq_getElem_cons hk, List.take_append_drop]
  have hl : (L.take k).length = k := by rw [List.length_take]; omega
  have hf : (flatR blkF (L.take k)).length = k * 7 := by rw [flatR_len blkF_len, hl]
  have e2 : L.set k p = L.take k ++ p :: L.drop (k + 1) := by
    conv => lhs; rw [e1]
    rw [List.set_append_right _ _ (by omega), hl, Nat.sub_self, List.set_cons_zero]
  have e3 : flatR blkF L = flatR blkF (L.take k) ++ (blkF L[k] ++ flatR blkF (L.drop (k + 1))) := by
    conv => lhs; rw [e1]
    rw [flatR_append]; rfl
  rw [e2, e3, flatR_append, ← hf]
  have e4 : flatR blkF (p :: L.drop (k + 1)) = blkF p ++ flatR blkF (L.drop (k + 1)) := rfl
  rw [e4]
  simp [blkF, hp]

/-- where the blocks of a tree end -/
def LimT (hi : Nat) (v : Value) (ps : TL) : Prop := (∀ g, v.ownBlock = some g → g < hi) ∧ ∀ p ∈ ps, ∀ g, p.2.ownBlock = some g → g < hi
theorem OwnT.lim {w : World} {base : Nat} {v : Value} {ps : TL} (h : OwnT w base v ps) : LimT w.heap.size v ps := ⟨fun g hg => (h.row.lt g hg).2, fun p hp g hg => ((h.cmds p hp).lt g hg).2⟩
theorem LimT.le {hi hi' : Nat} {v : Value} {ps : TL} (h : LimT hi v ps) (hl : hi ≤ hi') : LimT hi' v ps := ⟨fun g hg => Nat.lt_of_lt_of_le (h.1 g hg) hl, fun p hp g hg => Nat.lt_of_lt_of_le (h.2 p hp g hg) hl⟩

/-- one block of a tree of the call's own is written anew -/
theorem OwnT.mark {wr wA w1 wE : World} {base g n cap m : Nat} {L : TL} {b' : BK} (h : OwnT wr base (.slice (some ⟨g, 0, none⟩) n cap) L) (hm : m < L.length) (gA : wr.grownBy wA (some g)) (g1 : wA.grownBy w1 L[m].2.ownBlock)
    (o1 : w1.ownsRow base 93 3 L[m].2 b'.2.1.length (flatR cmdF b'.2.1)) (gE : w1.grownBy wE (some g))
    (rowE : wE.ownsRow base 55 7 (.slice (some ⟨g, 0, none⟩) n cap) L.length (flatR blkF (L.set m (b', L[m].2)))) {ys : List Value} (o1r : w1.ownsRow base 55 7 (.slice (some ⟨g, 0, none⟩) n cap) n ys) :
    OwnT wE base (.slice (some ⟨g, 0, none⟩) n cap) (L.set m (b', L[m].2)) := by
  have hap := List.pairwise_iff_getElem.1 h.apart
  have hlen : (L.set m (b', L[m].2)).length = L.length := by simp
  have hsnd : ∀ j (hj : j < L.length), ((L.set m (b', L[m].2))[j]'(by rw [hlen]; exact hj)).2 = L[j].2 := fun j hj => by
    rw [List.getElem_set]
    split
    · rename_i e; subst e; rfl
    · rfl
  refine ⟨by rw [hlen]; exact rowE, fun p hp => ?_, ?_⟩
  · obtain ⟨j, hj, rfl⟩ := List.mem_iff_getElem.1 hp
    rw [hlen] at hj
    by_cases e : m = j
    · subst e
      rw [List.getElem_set_self]
      exact World.ownsRow.kept o1 gE (own_kind o1 o1r ne_ids)
    · rw [List.getElem_set_ne e]
      have h0 := h.cmds _ (List.getElem_mem hj)
      have hA := World.ownsRow.kept h0 gA (own_kind h0 h.row ne_ids)
      have h1 := World.ownsRow.kept hA g1 (by
        rcases Nat.lt_or_gt_of_ne e with l | l
        · exact hap m j hm hj l
        · rcases hap j m hj hm l with q | q
          · by_cases hz : L[j].2.ownBlock = none
            · exact Or.inl hz
            · exact Or.inr (by rw [q]; exact hz)
          · exact Or.inr fun q' => q q'.symm)
      exact World.ownsRow.kept h1 gE (own_kind h1 o1r ne_ids)
  · rw [List.pairwise_iff_getElem]
    intro i j hi hj hij
    rw [hlen] at hi hj
    rw [hsnd i hi, hsnd j hj]
    exact hap i j hi hj hij
theorem wn_mark {wr wA w1 wE : World} {base hi g n cap m : Nat} {L : TL} (h : OwnT wr base (.slice (some ⟨g, 0, none⟩) n cap) L) (hl : LimT hi (.slice (some ⟨g, 0, none⟩) n cap) L) (hm : m < L.length) (gA : wr.grownBy wA (some g)) (g1 : wA.grownBy w1 L[m].2.ownBlock) (gE : w1.grownBy wE (some g)) : Wn base hi wr wE := by
  have hv : ∀ x, (some g : Option Nat) = some x → base ≤ x ∧ x < hi := fun x hx => ⟨(h.row.lt x hx).1, hl.1 x hx⟩
  exact ((Wn.of_grown gA hv).trans (Wn.of_grown g1 fun x hx => ⟨((h.cmds _ (List.getElem_mem hm)).lt x hx).1, hl.2 _ (List.getElem_mem hm) x hx⟩)).trans (Wn.of_grown gE hv)

end Go.Proofs.Ytcfgfhodbjakoav
