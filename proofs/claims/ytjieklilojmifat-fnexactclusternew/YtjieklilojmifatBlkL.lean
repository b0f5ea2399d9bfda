/-
  The contracts of the laws' own helpers over blocks: their sizes.
-/
import Derived.Test.YtjieklilojmifatJ2
import Derived.Test.YtjieklilojmifatBlockS2
import Derived.Test.YtjieklilojmifatCmdsL
namespace Go.Proofs.Ytjieklilojmifat
open Go.RowKit Num

theorem szq_le (l : List CM) : ∀ left : Int, szq l left ≤ max left (-1) := by
  induction l with
  | nil => intro left; unfold szq; omega
  | cons c l ih =>
    intro left
    unfold szq
    split
    · omega
    · have := ih (left - c.2.1.size); omega
theorem szCmdsC_le {l : List CM} {left : Int} (h0 : 0 ≤ left) : szCmdsC l left ≤ left := by
  unfold szCmdsC
  split
  · omega
  · have := szq_le l (left - l.length); omega
/-- what is left when a block's size is taken off -/
def szBk (b : BK) (left : Int) : Int := if szCmdsC b.2.1 left < 0 then -1 else szCmdsC b.2.1 left
theorem szBk_le {b : BK} {left : Int} (h0 : 0 ≤ left) : szBk b left ≤ left := by
  unfold szBk
  split
  · omega
  · exact szCmdsC_le h0
theorem szBk_bd {b : BK} {left : Int} (hl : left ≤ 1048576) (h : 0 ≤ szBk b left) : okB b := by
  unfold szBk at h
  split at h
  · omega
  · rename_i hn
    exact szCmds_bd hl (Int.not_lt.1 hn)
def szBq : List BK → Int → Int
  | [], left => left
  | b :: t, left => if szBk b left < 0 then -1 else szBq t (szBk b left)
def szBlocksC (t : List BK) (left : Int) : Int := if left - t.length < 0 then -1 else szBq t (left - t.length)
theorem szBq_bd (t : List BK) : ∀ left : Int, 0 ≤ left → left ≤ 1048576 → 0 ≤ szBq t left → szBq t left ≤ left ∧ ∀ b ∈ t, okB b := by
  induction t with
  | nil => intro left _ _ _; exact ⟨Int.le_refl _, fun b h => by cases h⟩
  | cons b t ih =>
    intro left h0 hl h
    unfold szBq at h ⊢
    split at h
    · omega
    · rename_i hn
      rw [if_neg hn]
      have h1 := szBk_le (b := b) h0
      have := ih _ (by omega) (by omega) h
      refine ⟨by omega, fun x hx => ?_⟩
      rcases List.mem_cons.1 hx with rfl | hx
      · exact szBk_bd hl (Int.not_lt.1 hn)
      · exact this.2 x hx
theorem szBlocks_bd {t : List BK} {left : Int} (hl : left ≤ 1048576) (h : 0 ≤ szBlocksC t left) : okT t ∧ szBlocksC t left ≤ left := by
  unfold szBlocksC at h ⊢
  split at h
  · omega
  · rename_i hn
    rw [if_neg hn]
    have := szBq_bd t _ (by omega) (by omega) h
    exact ⟨⟨by omega, this.2⟩, by omega⟩
theorem szBq_drop (t : List BK) (k : Nat) (h : k < t.length) (left : Int) : szBq (t.drop k) left = if szBk t[k] left < 0 then -1 else szBq (t.drop (k + 1)) (szBk t[k] left) := by
  rw [List.drop_eq_getElem_cons h]; rfl
/-- a block as it can be read -/
def goodBk (b : BK) : Prop := b.2.1.length ≤ maxLen ∧ ∀ c ∈ b.2.1, c.2.1.size ≤ maxLen



end Go.Proofs.Ytjieklilojmifat
