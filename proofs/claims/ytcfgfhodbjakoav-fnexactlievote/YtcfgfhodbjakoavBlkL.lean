/-
  The contracts of the laws' own helpers over blocks: their sizes.
-/
import Derived.Test.YtcfgfhodbjakoavBlkX
import Derived.Test.YtcfgfhodbjakoavBlockS2
import Derived.Test.YtcfgfhodbjakoavCmdsL
namespace Go.Proofs.Ytcfgfhodbjakoav
open Go.RowKit Num

theorem szq_le (l : List CM) : ∀ left : Int, szq l left ≤ max left (-1) := by
  induction l with
  | nil => intro left; unfold szq; omega
  | cons c l ih =>
    intro left
    unfold szq
    split
    · omega
    · have := ih (left - c.2.1.size); omega
theorem szCmdsC_le {l : List CM} {left : Int} (h0 : 0 ≤ left) : szCmdsC l left ≤ left := by
  unfold szCmdsC
  split
  · omega
  · have := szq_le l (left - l.length); omega
/-- what is left when a block's size is taken off -/
def szBk (b : BK) (left : Int) : Int := if szCmdsC b.2.1 left < 0 then -1 else szCmdsC b.2.1 left
theorem szBk_le {b : BK} {left : Int} (h0 : 0 ≤ left) : szBk b left ≤ left := by
  unfold szBk
  split
  · omega
  · exact szCmdsC_le h0
theorem szBk_bd {b : BK} {left : Int} (hl : left ≤ 1048576) (h : 0 ≤ szBk b left) : okB b := by
  unfold szBk at h
  split at h
  · omega
  · rename_i hn
    exact szCmds_bd hl (Int.not_lt.1 hn)
def szBq : List BK → Int → Int
  | [], left => left
  | b :: t, left => if szBk b left < 0 then -1 else szBq t (szBk b left)
def szBlocksC (t : List BK) (left : Int) : Int := if left - t.length < 0 then -1 else szBq t (left - t.length)
theorem szBq_bd (t : List BK) : ∀ left : Int, 0 ≤ left → left ≤ 1048576 → 0 ≤ szBq t left → szBq t left ≤ left ∧ ∀ b ∈ t, okB b := by
  induction t with
  | nil => intro left _ _ _; exact ⟨Int.le_refl _, fun b h => by cases h⟩
  | cons b t ih =>
    intro left h0 hl h
    unfold szBq at h ⊢
    split at h
    · omega
    · rename_i hn
      rw [if_neg hn]
      have h1 := szBk_le (b := b) h0
      have := ih _ (by omega) (by omega) h
      refine ⟨by omega, fun x hx => ?_⟩
      rcases List.mem_cons.1 hx with rfl | hx
      · exact szBk_bd hl (Int.not_lt.1 hn)
      · exact this.2 x hx
theorem szBlocks_bd {t : List BK} {left : Int} (hl : left ≤ 1048576) (h : 0 ≤ szBlocksC t left) : okT t ∧ szBlocksC t left ≤ left := by
  unfold szBlocksC at h ⊢
  split at h
  · omega
  · rename_i hn
    rw [if_neg hn]
    have := szBq_bd t _ (by omega) (by omega) h
    exact ⟨⟨by omega, this.2⟩, by omega⟩
theorem szBq_drop (t : List BK) (k : Nat) (h : k < t.length) (left : Int) : szBq (t.drop k) left = if szBk t[k] left < 0 then -1 else szBq (t.drop (k + 1)) (szBk t[k] left) := by
  rw [List.drop_eq_getElem_cons h]; rfl
/-- a block as it can be read -/
def goodBk (b : BK) : Prop := b.2.1.length ≤ maxLen ∧ ∀ c ∈ b.2.1, c.2.1.size ≤ maxLen

set_option maxRecDepth 100000 in
set_option maxHeartbeats 1000000 in
theorem szBlock_any (b : BK) (cv : Value) (left : Int) (w : World) (h0 : 0 ≤ left) (h1 : left ≤ 1048576) (hB : RowsR w cv 3 cmdF b.2.1) (hg : goodBk b) :
    Calls Try.prog 29 #[blkV b cv, .int .i64 left] w fun e w' => e = .returned (.int .i64 (szBk b left)) ∧ Below w.heap.size w w' := by
  have HB : Hid (RowsR w cv 3 cmdF b.2.1) := hB
  have HG : Hid (goodBk b) := hg
  have hgl : (b.2.1.length : Int) ≤ 9223372036854775807 := by have := hg.1; unfold maxLen at this; omega
  have hle := szCmdsC_le (l := b.2.1) h0
  clear hB hg
  unfold blkV
  go_enter Try.func29, Try.ntmps29
  go_wp2_with fail
  refine (szCmds_any b.2.1 cv left _ h0 h1 (HB.out.below (ba (Below.refl _ _) _)) hgl (fun c hc => by have := HG.out.2 c hc; unfold maxLen at this; omega)).mono ?_
  rintro e w2 ⟨rfl, hb2⟩
  have B2 : Below w.heap.size w w2 := bt (ba (Below.refl _ _) _) hb2
  by_cases hn : szCmdsC b.2.1 left < 0
  · have HE : Hid (szBk b left = -1) := if_pos hn
    go_wp2
    go_ret
    exact ⟨ret_int HE.out.symm, B2⟩
  · have HE : Hid (szBk b left = szCmdsC b.2.1 left) := if_neg hn
    go_wp2
    go_ret
    exact ⟨ret_int HE.out.symm, B2⟩

set_option maxRecDepth 100000 in
set_option maxHeartbeats 1000000 in
theorem szBlocks_any (ps : TL) (v : Value) (left : Int) (w : World) (h0 : 0 ≤ left) (h1 : left ≤ 1048576) (hT : TreeQ w v ps) (hl : (ps.length : Int) ≤ 9223372036854775807) (hg : ∀ p ∈ ps, goodBk p.1) :
    Calls Try.prog 10 #[v, .int .i64 left] w fun e w' => e = .returned (.int .i64 (szBlocksC (bks ps) left)) ∧ Below w.heap.size w w' := by
  have HT : Hid (TreeQ w v ps) := hT
  have HG : Hid (∀ p ∈ ps, goodBk p.1) := hg
  have hbl := bks_len ps
  obtain ⟨a, cap, rfl, hr⟩ := treeq_cells hT
  clear hT hg
  by_cases hneg : left - ps.length < 0
  · have HE : Hid (szBlocksC (bks ps) left = -1) := if_pos (by rw [hbl]; exact hneg)
    clear hr
    go_enter Try.func10, Try.ntmps10
    go_wp2
    go_ret
    exact ⟨ret_int HE.out.symm, Below.refl _ _⟩
  · have HE : Hid (szBlocksC (bks ps) left = szBq (bks ps) (left - ps.length)) := (by unfold szBlocksC; rw [hbl, if_neg hneg] : szBlocksC (bks ps) left = szBq (bks ps) (left - ps.length))
    have HR : Hid (0 < ps.length → _) := hr
    clear hr
    go_enter Try.func10, Try.ntmps10
    go_wp2
    go_loopw [1, 5] (fun v i wr => ∃ (k : Nat) (q : Int), k ≤ ps.length ∧ i = .int .i64 (k : Int) ∧ v = .int .i64 q ∧ 0 ≤ q ∧ q ≤ 1048576 ∧ Hid (szBlocksC (bks ps) left = szBq ((bks ps).drop k) q) ∧ Below w.heap.size w wr) (fun _ i _ => ps.length - (intOf i).toNat)
    case atStart => exact ⟨0, left - ps.length, Nat.zero_le _, rfl, rfl, by omega, by omega, HE.out, Below.refl _ _⟩
    case round =>
      obtain ⟨k, q, hk, rfl, rfl, hl0, hl1, HL, hbel⟩ := hrel
      by_cases hlt : (k : Int) < ps.length
      · have hkn : k < ps.length := by omega
        have q0 : (0 : Int) ≤ (k : Int) := by omega
        obtain ⟨g, off, rfl, hg, hc⟩ := HR.out (by omega)
        have c0 : wr.cell? ⟨g, off + k * 7, none⟩ = some (.int .i64 ps[k].1.1.1) := by rw [hbel.cell (by exact hg)]; exact (hc k hkn).1
        have c1 : wr.cell? ⟨g, off + k * 7 + 1, none⟩ = some (.int .i64 ps[k].1.1.2) := by rw [hbel.cell (by exact hg)]; exact (hc k hkn).2.1
        have c2 : wr.cell? ⟨g, off + k * 7 + 2, none⟩ = some ps[k].2 := by rw [hbel.cell (by exact hg)]; exact (hc k hkn).2.2.1
        have c3 : wr.cell? ⟨g, off + k * 7 + 3, none⟩ = some (.int .i64 ps[k].1.2.2.1) := by rw [hbel.cell (by exact hg)]; exact (hc k hkn).2.2.2.1
        have c4 : wr.cell? ⟨g, off + k * 7 + 4, none⟩ = some (.int .i64 ps[k].1.2.2.2.1) := by rw [hbel.cell (by exact hg)]; exact (hc k hkn).2.2.2.2.1
        have c5 : wr.cell? ⟨g, off + k * 7 + 5, none⟩ = some (.int .i64 ps[k].1.2.2.2.2.1) := by rw [hbel.cell (by exact hg)]; exact (hc k hkn).2.2.2.2.2.1
        have c6 : wr.cell? ⟨g, off + k * 7 + 6, none⟩ = some (.int .i64 ps[k].1.2.2.2.2.2) := by rw [hbel.cell (by exact hg)]; exact (hc k hkn).2.2.2.2.2.2
        have HS : Hid (szBq ((bks ps).drop k) q = if szBk ps[k].1 q < 0 then -1 else szBq ((bks ps).drop (k + 1)) (szBk ps[k].1 q)) := (by rw [szBq_drop (bks ps) k (by rw [hbl]; exact hkn), bks_at hkn] : szBq ((bks ps).drop k) q = if szBk ps[k].1 q < 0 then -1 else szBq ((bks ps).drop (k + 1)) (szBk ps[k].1 q))
        have hle := szBk_le (b := ps[k].1) hl0
        clear hc
        go_wp2_with fail
        refine (szBlock_any ps[k].1 ps[k].2 q wr hl0 hl1 ((HT.out.2 _ (List.getElem_mem hkn)).below hbel) (HG.out _ (List.getElem_mem hkn))).mono ?_
        rintro e w1 ⟨rfl, hb1⟩
        have B1 : Below w.heap.size w w1 := bt hbel hb1
        by_cases hn : szBk ps[k].1 q < 0
        · have HF : Hid (szBlocksC (bks ps) left = -1) := (by rw [HL.out, HS.out, if_pos hn] : szBlocksC (bks ps) left = -1)
          go_wp2
          go_ret
          exact ⟨ret_int HF.out.symm, B1⟩
        · have HF : Hid (szBlocksC (bks ps) left = szBq ((bks ps).drop (k + 1)) (szBk ps[k].1 q)) := (by rw [HL.out, HS.out, if_neg hn] : szBlocksC (bks ps) left = szBq ((bks ps).drop (k + 1)) (szBk ps[k].1 q))
          have hn' : 0 ≤ szBk ps[k].1 q := by omega
          go_wp2
          go_roundw
          case rel => exact ⟨k + 1, szBk ps[k].1 q, by omega, by go_num, rfl, hn', by omega, HF, B1⟩
          case measure => simp [intOf]; omega
      · have hkl : k = ps.length := by omega
        have HF : Hid (szBlocksC (bks ps) left = q) := (by rw [HL.out, hkl, List.drop_eq_nil_of_le (by rw [hbl]; exact Nat.le_refl _)]; rfl : szBlocksC (bks ps) left = q)
        clear hkl
        go_wp2
        go_ret
        exact ⟨ret_int HF.out.symm, hbel⟩

end Go.Proofs.Ytcfgfhodbjakoav
