/-
  Plain mathematics of letters: texts of numbers of every size, of votes, of what enough signed, of blocks, of letters.
-/
import Derived.Test.YtnghhfgbobpnkaoDoorVoteN
import Derived.Test.YtnghhfgbobpnkaoDoorOwn
import Derived.Test.YtnghhfgbobpnkaoDoorNum
namespace Go.Proofs.YtnghhfgbobpnkaoDoor
open Go.RowKit Num

theorem vb_bound : ∀ (k f : Nat) (m : Int), m ≤ 128 ^ (k + 1) - 1 → (vb f m).length ≤ k + 1
  | 0, f, m, hm => by rw [vb_small _ _ (by simpa using (by omega : m ≤ 127))]; simp
  | k + 1, 0, m, _ => by simp [vb]
  | k + 1, f + 1, m, hm => by
    by_cases hgt : 127 < m
    · have e : (128 : Int) ^ (k + 1 + 1) = 128 ^ (k + 1) * 128 := Int.pow_succ _ _
      rw [e] at hm
      have h2 := Int.ediv_lt_of_lt_mul (show (0 : Int) < 128 by decide) (show m < 128 ^ (k + 1) * 128 by omega)
      have := vb_bound k f (m / 128) (by omega)
      rw [show vb (f + 1) m = (if 127 < m then (m % 128 + 128) :: vb f (m / 128) else [m]) from rfl, if_pos hgt]
      simp only [List.length_cons]
      omega
    · rw [vb_small _ _ (by omega)]; simp
theorem vbs_ten (n : Int) (h : n ≤ 9223372036854775807) : (vbs n).length ≤ 10 :=
  vb_bound 9 _ _ (by rw [show (128 : Int) ^ (9 + 1) = 1180591620717411303424 from rfl]; omega)

/-- a number below 0 is told as 0 -/
def lowI (n : Int) : Int := if n < 0 then 0 else n
theorem lowI_bounds {n : Int} (h : n ≤ 9223372036854775807) : 0 ≤ lowI n ∧ lowI n ≤ 9223372036854775807 := by unfold lowI; split <;> omega
/-- the text of a number -/
def vT (n : Int) : ByteArray := strOfNums (vbs n)
theorem vT_size {n : Int} (h : n ≤ 9223372036854775807) : (vT n).size ≤ 10 := by unfold vT; rw [strOfNums_size]; exact vbs_ten n h
def lowT (n : Int) : ByteArray := vT (lowI n)
theorem lowT_size {n : Int} (h : n ≤ 9223372036854775807) : (lowT n).size ≤ 10 := vT_size (lowI_bounds h).2
/-- four numbers -/
def fourT (a b c d : Int) : ByteArray := lowT a ++ lowT b ++ lowT c ++ lowT d
def voteTx (v : VT) : ByteArray := fourT v.1 v.2.1 v.2.2.1 v.2.2.2
def qcTx (q : QC) : ByteArray := fourT q.1 q.2.1 q.2.2.1 q.2.2.2
theorem fourT_size {a b c d : Int} (ha : a ≤ 9223372036854775807) (hb : b ≤ 9223372036854775807) (hc : c ≤ 9223372036854775807) (hd : d ≤ 9223372036854775807) : (fourT a b c d).size ≤ 40 := by
  unfold fourT
  rw [ByteArray.size_append, ByteArray.size_append, ByteArray.size_append]
  have := lowT_size ha
  have := lowT_size hb
  have := lowT_size hc
  have := lowT_size hd
  omega
/-- a letter: Kind, From, To, View, Block; Qc; Vote -/
abbrev LT := (Int × Int × Int × Int × Int) × QC × VT
def letT (l : LT) : ByteArray := lowT l.1.1 ++ lowT l.1.2.1 ++ lowT l.1.2.2.1 ++ lowT l.1.2.2.2.1 ++ lowT l.1.2.2.2.2 ++ qcTx l.2.1 ++ voteTx l.2.2
/-- whether a letter is right -/
def letB (t : List BK) (n : Int) (l : LT) : Bool :=
  if ¬ (inB l.1.1 1 4 = true ∧ inB l.1.2.1 0 (n - 1) = true ∧ inB l.1.2.2.1 0 (n - 1) = true ∧ inB l.1.2.2.2.1 1 900 = true ∧ n ≤ 7) then false
  else if (l.1.1 ≠ 1 ∧ l.1.2.2.2.2 ≠ 0) ∨ (l.1.1 ≠ 2 ∧ l.2.2 ≠ (0, 0, 0, 0)) ∨ (l.1.1 = 2 ∧ l.2.1 ≠ (0, 0, 0, 0)) then false
  else if l.1.1 = 1 then inB l.1.2.2.2.2 1 ((t.length : Int) - 1) && (decide (viewAt t l.1.2.2.2.2 = l.1.2.2.2.1) && (decide ((t[l.1.2.2.2.2.toNat]?.getD firstB).2.2 = l.2.1) && qcRightB t n l.2.1))
  else if l.1.1 = 2 then voteB t n l.2.2 && (decide (l.2.2.2.2.2 = l.1.2.1) && decide (l.2.2.2.1 = l.1.2.2.2.1))
  else if l.1.1 = 3 then qcRightB t n l.2.1 && decide (l.2.1.2.1 = l.1.2.2.2.1)
  else qcRightB t n l.2.1 && decide (l.2.1.2.1 < l.1.2.2.2.1)
/-- a command's text -/
def cmdTx (c : CM) : ByteArray := lowT c.1 ++ vT c.2.1.size ++ c.2.1 ++ lowT c.2.2
def cmdsTx (cs : List CM) : ByteArray := cs.foldl (fun s c => s ++ lowT c.1 ++ vT c.2.1.size ++ c.2.1 ++ lowT c.2.2) ByteArray.empty
/-- what stands ahead of a block's commands -/
def blkHd (b : BK) : ByteArray := lowT (if 0 ≤ b.1.1 then wrap64 (b.1.1 + 1) else 0) ++ lowT b.1.2 ++ vT b.2.1.length
/-- .. and up to the first k commands -/
def blkTo (b : BK) (k : Nat) : ByteArray := (b.2.1.take k).foldl (fun s c => s ++ lowT c.1 ++ vT c.2.1.size ++ c.2.1 ++ lowT c.2.2) (blkHd b)
theorem blkTo_step {b : BK} {k : Nat} (h : k < b.2.1.length) : blkTo b (k + 1) = blkTo b k ++ lowT b.2.1[k].1 ++ vT b.2.1[k].2.1.size ++ b.2.1[k].2.1 ++ lowT b.2.1[k].2.2 := by
  unfold blkTo; rw [List.take_add_one, List.getElem?_eq_getElem h, List.foldl_append]; rfl
def blockTx (b : BK) : ByteArray := blkTo b b.2.1.length ++ qcTx b.2.2

end Go.Proofs.YtnghhfgbobpnkaoDoor
