/-
  What ReadVar and ReadShort answer, as values.
-/
import Derived.Test.YtnghhfgbobpnkaaDoorNum
namespace Go.Proofs.YtnghhfgbobpnkaaDoor.Num

theorem rv_ok (a : Nat) : ∀ (f : Nat) (l : List Int) (n sc : Int) (i : Nat) (N X : Int), 0 ≤ n → 0 ≤ sc → rv a f l n sc i = (N, X, true) → 0 ≤ N ∧ N ≤ 1000000000 ∧ 0 ≤ X ∧ X ≤ i + l.length
  | 0, _, _, _, _, _, _, _, _, h => by simp [rv] at h
  | f + 1, [], _, _, _, _, _, _, _, h => by simp [rv] at h
  | f + 1, b :: l, n, sc, i, N, X, hn, hsc, h => by
    have hm : 0 ≤ b % 128 * sc := Int.mul_nonneg (by omega) hsc
    unfold rv at h
    split at h
    · have := rv_ok a f l _ _ _ N X (by omega) (by omega) h
      simp; omega
    · split at h
      · simp at h
      · simp at h
        obtain ⟨h1, h2⟩ := h
        simp; omega

end Go.Proofs.YtnghhfgbobpnkaaDoor.Num
namespace Go.Proofs.YtnghhfgbobpnkaaDoor
open Go.RowKit Num

/-- three results as a value -/
def tri (r : Int × Int × Bool) : Value := .tuple #[.int .i64 r.1, .int .i64 r.2.1, .bool r.2.2]

theorem ret_tri {a b : Int} {c : Bool} {r : Int × Int × Bool} (h : r = (a, b, c)) : Ending.returned (.tuple #[.int .i64 a, .int .i64 b, .bool c]) = .returned (tri r) := by rw [h]; rfl

/-- what ReadVar answers -/
def rvOf (s : ByteArray) (a : Int) : Int × Int × Bool := if 0 ≤ a ∧ a ≤ s.size then rvAt s a.toNat 0 1 a.toNat else (0, 0, false)

theorem rvOf_ok {s : ByteArray} {a N X : Int} (h : rvOf s a = (N, X, true)) : 0 ≤ N ∧ N ≤ 1000000000 ∧ 0 ≤ X ∧ X ≤ s.size := by
  unfold rvOf at h
  split at h
  · rename_i ha
    have := rv_ok a.toNat _ _ _ _ _ N X (by omega) (by omega) h
    simp only [List.length_drop, bs_len] at this
    omega
  · simp at h

/-- there is none -/
def noText : Value := .tuple #[.string ByteArray.empty, .int .i64 0, .bool false]

end Go.Proofs.YtnghhfgbobpnkaaDoor
