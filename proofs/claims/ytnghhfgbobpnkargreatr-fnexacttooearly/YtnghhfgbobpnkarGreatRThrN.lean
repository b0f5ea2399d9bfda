/-
  What is let through is not too long.
-/
import Derived.Test.YtnghhfgbobpnkarGreatRThrS
import Derived.Test.YtnghhfgbobpnkarGreatRBlkW
namespace Go.Proofs.YtnghhfgbobpnkarGreatR
open Go.RowKit Num

theorem sum_of {q : PE} (h : smallPe q) (hl : lenPe q ≤ 3200000) : sumPe q := by
  have a0 := h.row
  have a1 := h.cells
  have a2 := h.early
  have a3 := h.undos
  have a4 := h.votes
  have a5 := h.news
  exact ⟨hl, by omega, by omega, by omega, by omega, by omega, by omega⟩
theorem through_small {t : List BK} {p : PE} {k : Int} (hs : smallPe p) (hk : okT t) (hl : lenPe p + wtB t ≤ 1048576) : smallPe (throughP t p k) := by
  unfold throughP
  split
  · have ha := after_length t k (lastI p.row)
    have hc := rowC_ok hk (afterI t k (lastI p.row)) _ (okL_back hs)
    have hw : t.length ≤ wtB t := by unfold wtB; omega
    have hr : p.row.length ≤ lenPe p := by unfold lenPe; omega
    refine ⟨?_, hc.1, ?_, ?_, hs.votes, hs.news, hc.2, ?_⟩
    · show (((backP p).row ++ _).length : Int) ≤ 1048576
      rw [List.length_append]
      show ((p.row.length + _ : Nat) : Int) ≤ 1048576
      omega
    · simp [thrP, backP]
    · simp [thrP, backP]
    · intro c hc; simp [thrP, backP] at hc
  · exact hs
theorem through_sum {t : List BK} {p : PE} {k : Int} (hs : smallPe p) (hk : okT t) (hl : lenPe p + wtB t ≤ 1048576) : sumPe (throughP t p k) := by
  refine sum_of (through_small hs hk hl) ?_
  unfold throughP
  split
  · have ha := after_length t k (lastI p.row)
    have hc := rowC_ok hk (afterI t k (lastI p.row)) _ (okL_back hs)
    have hw : t.length ≤ wtB t := by unfold wtB; omega
    have h1 := hc.1
    have hx : lenPe (thrP t (backP p) (afterI t k (lastI p.row))) = p.row.length + (afterI t k (lastI p.row)).length + (rowC t (backP p).cells (afterI t k (lastI p.row))).length + p.votes.length + p.news.length := by
      unfold lenPe thrP backP; simp
    rw [hx]
    unfold lenPe at hl
    omega
  · omega

end Go.Proofs.YtnghhfgbobpnkarGreatR
