/-
  The contracts of the laws' own helpers over rows of blocks: turned into the program's.
-/
import Derived.Test.YtcfgfhodbjakoavBlkT
namespace Go.Proofs.Ytcfgfhodbjakoav
open Go.RowKit Num

/-- seven cells of a row of the call's own, set one behind the other -/
theorem own_seven {w : World} {base g n cap : Nat} {e : TypeId} {xs : List Value} (h : w.ownsRow base e 7 (.slice (some ⟨g, 0, none⟩) n cap) n xs) (k : Nat) (hk : k < n) (a b c d v4 v5 v6 : Value) :
    ∃ u0 u1 u2 u3 u4 u5 u6, (w.cell? ⟨g, k * 7, none⟩ = some u0 ∧ w.frozen? ⟨g, k * 7, none⟩ = false) ∧ ((w.setCell ⟨g, k * 7, none⟩ a).cell? ⟨g, k * 7 + 1, none⟩ = some u1 ∧ (w.setCell ⟨g, k * 7, none⟩ a).frozen? ⟨g, k * 7 + 1, none⟩ = false) ∧ (((w.setCell ⟨g, k * 7, none⟩ a).setCell ⟨g, k * 7 + 1, none⟩ b).cell? ⟨g, k * 7 + 2, none⟩ = some u2 ∧ ((w.setCell ⟨g, k * 7, none⟩ a).setCell ⟨g, k * 7 + 1, none⟩ b).frozen? ⟨g, k * 7 + 2, none⟩ = false) ∧ ((((w.setCell ⟨g, k * 7, none⟩ a).setCell ⟨g, k * 7 + 1, none⟩ b).setCell ⟨g, k * 7 + 2, none⟩ c).cell? ⟨g, k * 7 + 3, none⟩ = some u3 ∧ (((w.setCell ⟨g, k * 7, none⟩ a).setCell ⟨g, k * 7 + 1, none⟩ b).setCell ⟨g, k * 7 + 2, none⟩ c).frozen? ⟨g, k * 7 + 3, none⟩ = false) ∧ (((((w.setCell ⟨g, k * 7, none⟩ a).setCell ⟨g, k * 7 + 1, none⟩ b).setCell ⟨g, k * 7 + 2, none⟩ c).setCell ⟨g, k * 7 + 3, none⟩ d).cell? ⟨g, k * 7 + 4, none⟩ = some u4 ∧ ((((w.setCell ⟨g, k * 7, none⟩ a).setCell ⟨g, k * 7 + 1, none⟩ b).setCell ⟨g, k * 7 + 2, none⟩ c).setCell ⟨g, k * 7 + 3, none⟩ d).frozen? ⟨g, k * 7 + 4, none⟩ = false) ∧ ((((((w.setCell ⟨g, k * 7, none⟩ a).setCell ⟨g, k * 7 + 1, none⟩ b).setCell ⟨g, k * 7 + 2, none⟩ c).setCell ⟨g, k * 7 + 3, none⟩ d).setCell ⟨g, k * 7 + 4, none⟩ v4).cell? ⟨g, k * 7 + 5, none⟩ = some u5 ∧ (((((w.setCell ⟨g, k * 7, none⟩ a).setCell ⟨g, k * 7 + 1, none⟩ b).setCell ⟨g, k * 7 + 2, none⟩ c).setCell ⟨g, k * 7 + 3, none⟩ d).setCell ⟨g, k * 7 + 4, none⟩ v4).frozen? ⟨g, k * 7 + 5, none⟩ = false) ∧ (((((((w.setCell ⟨g, k * 7, none⟩ a).setCell ⟨g, k * 7 + 1, none⟩ b).setCell ⟨g, k * 7 + 2, none⟩ c).setCell ⟨g, k * 7 + 3, none⟩ d).setCell ⟨g, k * 7 + 4, none⟩ v4).setCell ⟨g, k * 7 + 5, none⟩ v5).cell? ⟨g, k * 7 + 6, none⟩ = some u6 ∧ ((((((w.setCell ⟨g, k * 7, none⟩ a).setCell ⟨g, k * 7 + 1, none⟩ b).setCell ⟨g, k * 7 + 2, none⟩ c).setCell ⟨g, k * 7 + 3, none⟩ d).setCell ⟨g, k * 7 + 4, none⟩ v4).setCell ⟨g, k * 7 + 5, none⟩ v5).frozen? ⟨g, k * 7 + 6, none⟩ = false) ∧ (((((((w.setCell ⟨g, k * 7, none⟩ a).setCell ⟨g, k * 7 + 1, none⟩ b).setCell ⟨g, k * 7 + 2, none⟩ c).setCell ⟨g, k * 7 + 3, none⟩ d).setCell ⟨g, k * 7 + 4, none⟩ v4).setCell ⟨g, k * 7 + 5, none⟩ v5).setCell ⟨g, k * 7 + 6, none⟩ v6).ownsRow base e 7 (.slice (some ⟨g, 0, none⟩) n cap) n (((((((xs.set (k * 7) a).set (k * 7 + 1) b).set (k * 7 + 2) c).set (k * 7 + 3) d).set (k * 7 + 4) v4).set (k * 7 + 5) v5).set (k * 7 + 6) v6) ∧ w.grownBy (((((((w.setCell ⟨g, k * 7, none⟩ a).setCell ⟨g, k * 7 + 1, none⟩ b).setCell ⟨g, k * 7 + 2, none⟩ c).setCell ⟨g, k * 7 + 3, none⟩ d).setCell ⟨g, k * 7 + 4, none⟩ v4).setCell ⟨g, k * 7 + 5, none⟩ v5).setCell ⟨g, k * 7 + 6, none⟩ v6) (some g) := by
  have hl := h.1
  have b0 : k * 7 < xs.length := by omega
  have b1 : k * 7 + 1 < xs.length := by omega
  have b2 : k * 7 + 2 < xs.length := by omega
  have b3 : k * 7 + 3 < xs.length := by omega
  have b4 : k * 7 + 4 < xs.length := by omega
  have b5 : k * 7 + 5 < xs.length := by omega
  have b6 : k * 7 + 6 < xs.length := by omega
  have s0 := h.stored (k * 7) a
  have s1 := s0.1.stored (k * 7 + 1) b
  have s2 := s1.1.stored (k * 7 + 2) c
  have s3 := s2.1.stored (k * 7 + 3) d
  have s4 := s3.1.stored (k * 7 + 4) v4
  have s5 := s4.1.stored (k * 7 + 5) v5
  have s6 := s5.1.stored (k * 7 + 6) v6
  refine ⟨xs[k * 7], xs[k * 7 + 1], xs[k * 7 + 2], xs[k * 7 + 3], xs[k * 7 + 4], xs[k * 7 + 5], xs[k * 7 + 6], ⟨?_, h.frozenAt _⟩, ⟨?_, s0.1.frozenAt _⟩, ⟨?_, s1.1.frozenAt _⟩, ⟨?_, s2.1.frozenAt _⟩, ⟨?_, s3.1.frozenAt _⟩, ⟨?_, s4.1.frozenAt _⟩, ⟨?_, s5.1.frozenAt _⟩, s6.1, (grown_trans (grown_trans (grown_trans (grown_trans (grown_trans (grown_trans s0.2 s1.2) s2.2) s3.2) s4.2) s5.2) s6.2)⟩
  · rw [h.cellAt _ (by omega), List.getElem?_eq_getElem b0]
  · rw [s0.1.cellAt _ (by omega), List.getElem?_set_ne (by omega), List.getElem?_eq_getElem b1]
  · rw [s1.1.cellAt _ (by omega), List.getElem?_set_ne (by omega), List.getElem?_set_ne (by omega), List.getElem?_eq_getElem b2]
  · rw [s2.1.cellAt _ (by omega), List.getElem?_set_ne (by omega), List.getElem?_set_ne (by omega), List.getElem?_set_ne (by omega), List.getElem?_eq_getElem b3]
  · rw [s3.1.cellAt _ (by omega), List.getElem?_set_ne (by omega), List.getElem?_set_ne (by omega), List.getElem?_set_ne (by omega), List.getElem?_set_ne (by omega), List.getElem?_eq_getElem b4]
  · rw [s4.1.cellAt _ (by omega), List.getElem?_set_ne (by omega), List.getElem?_set_ne (by omega), List.getElem?_set_ne (by omega), List.getElem?_set_ne (by omega), List.getElem?_set_ne (by omega), List.getElem?_eq_getElem b5]
  · rw [s5.1.cellAt _ (by omega), List.getElem?_set_ne (by omega), List.getElem?_set_ne (by omega), List.getElem?_set_ne (by omega), List.getElem?_set_ne (by omega), List.getElem?_set_ne (by omega), List.getElem?_set_ne (by omega), List.getElem?_eq_getElem b6]

/-- these blocks have been set, whatever else stands behind them -/
def preB (qs : TL) (xs : List Value) : Prop := ∃ ys, xs = flatR blkF qs ++ ys
theorem preB_step {qs : TL} {xs : List Value} {n k : Nat} (h : preB qs xs) (hq : qs.length = k) (hx : xs.length = n * 7) (hk : k < n) (p : BK × Value) :
    preB (qs ++ [p]) (((((((xs.set (k * 7) (.int .i64 p.1.1.1)).set (k * 7 + 1) (.int .i64 p.1.1.2)).set (k * 7 + 2) p.2).set (k * 7 + 3) (.int .i64 p.1.2.2.1)).set (k * 7 + 4) (.int .i64 p.1.2.2.2.1)).set (k * 7 + 5) (.int .i64 p.1.2.2.2.2.1)).set (k * 7 + 6) (.int .i64 p.1.2.2.2.2.2)) := by
  subst hq
  obtain ⟨ys, rfl⟩ := h
  have hf := flatR_len blkF_len qs
  have hy : 7 ≤ ys.length := by rw [List.length_append, hf] at hx; omega
  obtain ⟨y0, y1, y2, y3, y4, y5, y6, zs, rfl⟩ : ∃ y0 y1 y2 y3 y4 y5 y6 zs, ys = y0 :: y1 :: y2 :: y3 :: y4 :: y5 :: y6 :: zs := by
    match ys, hy with
    | y0 :: y1 :: y2 :: y3 :: y4 :: y5 :: y6 :: zs, _ => exact ⟨y0, y1, y2, y3, y4, y5, y6, zs, rfl⟩
  refine ⟨zs, ?_⟩
  rw [flatR_append, flatB_one, ← hf]
  simp [blkF]
theorem preB_all {qs : TL} {xs : List Value} (h : preB qs xs) (hx : xs.length = qs.length * 7) : xs = flatR blkF qs := by
  obtain ⟨ys, rfl⟩ := h
  rw [List.length_append, flatR_len blkF_len] at hx
  obtain rfl : ys = [] := List.eq_nil_of_length_eq_zero (by omega)
  simp

/-- the rows of the commands of blocks, of the call's own and apart -/
def CmdsT (w : World) (base : Nat) (qs : TL) : Prop := (∀ p ∈ qs, w.ownsRow base 93 3 p.2 p.1.2.1.length (flatR cmdF p.1.2.1)) ∧ qs.Pairwise fun p q => q.2.ownBlock = none ∨ q.2.ownBlock ≠ p.2.ownBlock
theorem cmdsT_nil (w : World) (base : Nat) : CmdsT w base [] := ⟨fun p hp => (by cases hp), List.Pairwise.nil⟩
theorem CmdsT.push {wr w2 w3 : World} {base n : Nat} {qs : TL} {b : BK} {cv : Value} {xs : List Value} {g : Nat} {cap : Nat} (h : CmdsT wr base qs) (hb : Below wr.heap.size wr w2) (hc : w2.ownsRow wr.heap.size 93 3 cv b.2.1.length (flatR cmdF b.2.1))
    (hrow : w2.ownsRow base 55 7 (.slice (some ⟨g, 0, none⟩) n cap) n xs) (hg : w2.grownBy w3 (some g)) (hbase : base ≤ wr.heap.size) : CmdsT w3 base (qs ++ [(b, cv)]) := by
  refine ⟨fun p hp => ?_, ?_⟩
  · rcases List.mem_append.1 hp with hp | hp
    · have h2 := own_kept (h.1 p hp) hb
      exact World.ownsRow.kept h2 hg (own_kind h2 hrow ne_ids)
    · simp at hp
      subst hp
      exact own_base (World.ownsRow.kept hc hg (own_kind hc hrow ne_ids)) hbase
  · rw [List.pairwise_append]
    refine ⟨h.2, by simp, fun p hp q hq => ?_⟩
    simp at hq
    subst hq
    exact own_ne (h.1 p hp) hc (Nat.le_refl _)

set_option maxRecDepth 100000 in
set_option maxHeartbeats 4000000 in
theorem toBlocks_any (ps : TL) (v : Value) (w : World) (hT : TreeQ w v ps) (hk : okT (bks ps)) :
    Calls Try.prog 16 #[v] w fun e w' => ∃ v' qs, e = .returned v' ∧ bks qs = bks ps ∧ OwnT w' w.heap.size v' qs ∧ Below w.heap.size w w' := by
  have HT : Hid (TreeQ w v ps) := hT
  have HK : Hid (okT (bks ps)) := hk
  obtain ⟨a, cap, rfl, hr⟩ := treeq_cells hT
  have HR : Hid (0 < ps.length → _) := hr
  have hbl := bks_len ps
  have hl : (ps.length : Int) ≤ 1048576 := by have := hk.1; rw [hbl] at this; exact this
  obtain ⟨i0, hi, hz0, hz1, hz2⟩ := info_parts infoBlk
  clear hr hT hk
  go_enter Try.func16, Try.ntmps16
  go_wp2_with (at_make; refine wpList_make_full _ rfl _ _ 37 rfl w.heap.size 55 i0 _ 7 Try.underlying37 hi hz0 hz1 _ _ _ _ ps.length rfl rfl (by omega) (by omega) (by rw [hz2]; omega) (by unfold maxLen; omega) (Nat.le_refl _) ?_; intro w0 hown0 hgrow0)
  have hb0 : Below w.heap.size w w0 := (Below.refl _ _).grown hgrow0 (Nat.le_refl _) (fun k h => by cases h)
  have HO0 : Hid (w0.ownsRow w.heap.size 55 7 (.slice (some ⟨w.heap.size, 0, none⟩) ps.length ps.length) ps.length _) := hown0
  clear hgrow0 hown0
  go_loopw [4] (fun i wr => ∃ (k : Nat) (qs : TL) (xs : List Value), k ≤ ps.length ∧ i = .int .i64 k ∧ Hid (bks qs = (bks ps).take k) ∧ Hid (preB qs xs) ∧ Hid (wr.ownsRow w.heap.size 55 7 (.slice (some ⟨w.heap.size, 0, none⟩) ps.length ps.length) ps.length xs) ∧ Hid (CmdsT wr w.heap.size qs) ∧ Below w.heap.size w wr) (fun i _ => ps.length - (intOf i).toNat)
  case atStart =>
    exact ⟨0, [], _, Nat.zero_le _, rfl, rfl, ⟨_, rfl⟩, HO0.out, cmdsT_nil _ _, hb0⟩
  case round =>
    obtain ⟨k, qs, xs, hk, rfl, HS, HX, HO, HC, hbel⟩ := hrel
    clear hb0
    have hql : qs.length = k := by have := congrArg List.length HS.out; rw [bks_len, List.length_take, hbl] at this; omega
    have hbs := hbel.size
    by_cases hlt : (k : Int) < ps.length
    · have hkn : k < ps.length := by omega
      have q0 : (0 : Int) ≤ (k : Int) := by omega
      obtain ⟨g, off, rfl, hg, hc⟩ := HR.out (by omega)
      have c0 : wr.cell? ⟨g, off + k * 7, none⟩ = some (.int .i64 ps[k].1.1.1) := by rw [hbel.cell (by exact hg)]; exact (hc k hkn).1
      have c1 : wr.cell? ⟨g, off + k * 7 + 1, none⟩ = some (.int .i64 ps[k].1.1.2) := by rw [hbel.cell (by exact hg)]; exact (hc k hkn).2.1
      have c2 : wr.cell? ⟨g, off + k * 7 + 2, none⟩ = some ps[k].2 := by rw [hbel.cell (by exact hg)]; exact (hc k hkn).2.2.1
      have c3 : wr.cell? ⟨g, off + k * 7 + 3, none⟩ = some (.int .i64 ps[k].1.2.2.1) := by rw [hbel.cell (by exact hg)]; exact (hc k hkn).2.2.2.1
      have c4 : wr.cell? ⟨g, off + k * 7 + 4, none⟩ = some (.int .i64 ps[k].1.2.2.2.1) := by rw [hbel.cell (by exact hg)]; exact (hc k hkn).2.2.2.2.1
      have c5 : wr.cell? ⟨g, off + k * 7 + 5, none⟩ = some (.int .i64 ps[k].1.2.2.2.2.1) := by rw [hbel.cell (by exact hg)]; exact (hc k hkn).2.2.2.2.2.1
      have c6 : wr.cell? ⟨g, off + k * 7 + 6, none⟩ = some (.int .i64 ps[k].1.2.2.2.2.2) := by rw [hbel.cell (by exact hg)]; exact (hc k hkn).2.2.2.2.2.2
      have HN : Hid ((bks ps).take (k + 1) = (bks ps).take k ++ [ps[k].1]) := (by rw [Go.Proofs.Ytcfgfhodbjakoav.take_snoc (by rw [hbl]; exact hkn), bks_at hkn] : (bks ps).take (k + 1) = (bks ps).take k ++ [ps[k].1])
      clear hc
      go_wp2_with fail
      refine (toBlock_any ps[k].1 ps[k].2 wr ((HT.out.2 _ (List.getElem_mem hkn)).below hbel) (okT_at HK.out hkn).1).mono ?_
      rintro e w2 ⟨cv, rfl, hown2, hb2⟩
      obtain ⟨ac, capc, rfl, _⟩ := own_form hown2
      unfold blkV
      obtain ⟨u0, u1, u2, u3, u4, u5, u6, ⟨x0, f0⟩, ⟨x1, f1⟩, ⟨x2, f2⟩, ⟨x3, f3⟩, ⟨x4, f4⟩, ⟨x5, f5⟩, ⟨x6, f6⟩, R, G⟩ := own_seven (own_kept HO.out hb2) k hkn (.int .i64 ps[k].1.1.1) (.int .i64 ps[k].1.1.2) (.slice ac ps[k].1.2.1.length capc) (.int .i64 ps[k].1.2.2.1) (.int .i64 ps[k].1.2.2.2.1) (.int .i64 ps[k].1.2.2.2.2.1) (.int .i64 ps[k].1.2.2.2.2.2)
      have HRR : Hid (World.ownsRow _ w.heap.size 55 7 (.slice (some ⟨w.heap.size, 0, none⟩) ps.length ps.length) ps.length _) := R
      have HC3 : Hid (CmdsT _ w.heap.size (qs ++ [(ps[k].1, .slice ac ps[k].1.2.1.length capc)])) := HC.out.push hb2 hown2 (own_kept HO.out hb2) G hbs
      have B1 := bt hbel hb2
      have B3 : Below w.heap.size w _ := B1.grown G B1.size (fun b hb => by cases hb; exact Nat.le_refl _)
      have HX3 : Hid (preB (qs ++ [(ps[k].1, .slice ac ps[k].1.2.1.length capc)]) _) := preB_step HX.out hql HO.out.1 hkn (ps[k].1, .slice ac ps[k].1.2.1.length capc)
      clear R G c0 c1 c2 c3 c4 c5 c6 hb2 hown2
      go_wp2
      go_roundw
      case rel => exact ⟨k + 1, _, _, by omega, by go_num, (by rw [bks_snoc, HN.out, HS.out] : bks (qs ++ [(ps[k].1, .slice ac ps[k].1.2.1.length capc)]) = (bks ps).take (k + 1)), HX3.out, HRR.out, HC3.out, B3⟩
      case measure => simp [intOf]; omega
    · have hkl : k = ps.length := by omega
      have HF : Hid (bks qs = bks ps) := (by rw [HS.out, hkl, ← hbl, List.take_length] : bks qs = bks ps)
      have HL : Hid (qs.length = ps.length) := (by omega : qs.length = ps.length)
      clear hkl
      go_wp2
      go_ret
      refine ⟨_, rfl, qs, HF.out, ⟨?_, HC.out.1, HC.out.2⟩, hbel⟩
      have hx := preB_all HX.out (by rw [HO.out.1, HL.out])
      rw [HL.out, ← hx]
      exact HO.out

end Go.Proofs.Ytcfgfhodbjakoav
