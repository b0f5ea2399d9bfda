/-
  Plain mathematics of blocks that are put in by hand: what is wrong with one, what becomes of the cluster.
-/
import Derived.Test.YtcfgfhodbjakoavGreatDoorJ2
import Derived.Test.YtcfgfhodbjakoavGreatDoorJ0
import Derived.Test.YtcfgfhodbjakoavGreatDoorBlockP
namespace Go.Proofs.YtcfgfhodbjakoavGreatDoor
open Go.RowKit Num

/-- what is wrong with what enough signed; 0 says that all is well -/
def qcCode (c : CU) (q : QC) : Int := if qcRightB c.tree c.n q = true then (if provenB c.said q c.liars = true then 0 else 4) else 3
/-- what is wrong with a block -/
def handCode (c : CU) (b : BK) : Int := if qcCode c b.2.2 = 0 then (if putAt c.tree b = -1 then 6 else 0) else qcCode c b.2.2
def handCu (c : CU) (b : BK) : CU := if handCode c b = 0 then { c with tree := putT c.tree b } else c
def handBlockF (c : CU) (b : BK) : CU × Int := if handCode c b = 0 then ({ c with tree := putT c.tree b }, putAt c.tree b) else (c, -1)

theorem qcCode_cases (c : CU) (q : QC) : (qcRightB c.tree c.n q = false ∧ qcCode c q = 3) ∨ (qcRightB c.tree c.n q = true ∧ provenB c.said q c.liars = false ∧ qcCode c q = 4) ∨ (qcRightB c.tree c.n q = true ∧ provenB c.said q c.liars = true ∧ qcCode c q = 0) := by
  unfold qcCode
  cases h1 : qcRightB c.tree c.n q with
  | false => exact Or.inl ⟨rfl, if_neg (by decide)⟩
  | true =>
    cases h2 : provenB c.said q c.liars with
    | false => exact Or.inr (Or.inl ⟨rfl, rfl, by simp⟩)
    | true => exact Or.inr (Or.inr ⟨rfl, rfl, by simp⟩)
/-- the signers of what enough signed are those that there can be -/
theorem qcRight_sig {t : List BK} {n : Int} {q : QC} (h : qcRightB t n q = true) : q.2.1 = 0 ∨ 0 ≤ q.2.2.2 ∧ q.2.2.2 < 128 := by
  unfold qcRightB at h
  by_cases hz : q = (0, 0, 0, 0)
  · left; rw [hz]
  · right
    rw [if_neg hz] at h
    simp only [Bool.and_eq_true, voteB, inB, decide_eq_true_eq] at h
    obtain ⟨⟨⟨n0, n1⟩, _⟩, ⟨s0, s1⟩, _⟩ := h
    obtain ⟨m, rfl⟩ : ∃ m : Nat, n = (m : Int) := ⟨n.toNat, by omega⟩
    refine ⟨s0, ?_⟩
    have hm : m = 1 ∨ m = 2 ∨ m = 3 ∨ m = 4 ∨ m = 5 ∨ m = 6 ∨ m = 7 := by omega
    simp only [Int.toNat_natCast] at s1
    rcases hm with rfl | rfl | rfl | rfl | rfl | rfl | rfl <;> simp only [Int.pow_succ, Int.pow_zero, Int.one_mul, Int.reduceMul] at s1 <;> omega
theorem putAt_cases (t : List BK) (b : BK) : (putAt t b = -1 ∧ putT t b = t) ∨ (0 ≤ putAt t b ∧ blockAt (putT t b) b = putAt t b) := by
  by_cases h : 0 ≤ blockAt t b
  · right
    obtain ⟨h1, h2⟩ := put_there h
    rw [h1, h2]
    exact ⟨h, rfl⟩
  · by_cases h2 : blockB t b = false ∨ 60 ≤ t.length
    · left; exact put_not h h2
    · right
      obtain ⟨h3, h4⟩ := put_new h h2
      rw [h3, h4]
      refine ⟨by omega, blockAt_new ?_⟩
      rcases blockAt_cases t b with ⟨_, hn⟩ | ⟨j, hj, e, _⟩
      · exact hn
      · omega
theorem handCode_cases (c : CU) (b : BK) : (handCode c b ≠ 0 ∧ handBlockF c b = (c, -1) ∧ handCu c b = c) ∨ (handCode c b = 0 ∧ qcCode c b.2.2 = 0 ∧ 0 ≤ putAt c.tree b ∧ handBlockF c b = ({ c with tree := putT c.tree b }, putAt c.tree b) ∧ handCu c b = { c with tree := putT c.tree b }) := by
  by_cases h : handCode c b = 0
  · right
    have h0 := h
    unfold handCode at h0
    by_cases h1 : qcCode c b.2.2 = 0
    · rw [if_pos h1] at h0
      refine ⟨h, h1, ?_, if_pos h, if_pos h⟩
      rcases putAt_cases c.tree b with ⟨h2, _⟩ | ⟨h2, _⟩
      · rw [if_pos h2] at h0; exact absurd h0 (by decide)
      · exact h2
    · rw [if_neg h1] at h0; exact absurd h0 h1
  · left; exact ⟨h, if_neg h, if_neg h⟩

end Go.Proofs.YtcfgfhodbjakoavGreatDoor
