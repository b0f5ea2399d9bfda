/-
  A letter taken out, through a pointer to a cluster: the contracts of the specification's l15Out and LoseAt. (Made by gou15.py.)
-/
import Derived.Test.YtjieklilojmifatClusP
import Derived.Test.YtjieklilojmifatAnsS
namespace Go.Proofs.Ytjieklilojmifat
open Go.RowKit Num

def outC (c : CU) (k : Int) : CU := if 0 ≤ k ∧ k < c.net.length then { c with net := c.net.take k.toNat ++ c.net.drop (k.toNat + 1) } else c
def outB (c : CU) (k : Int) : Bool := decide (0 ≤ k ∧ k < c.net.length)
def outL (c : CU) (k : Int) : LT := match c.net[k.toNat]? with
  | some l => if 0 ≤ k then l else ((0, 0, 0, 0, 0), (0, 0, 0, 0), (0, 0, 0, 0))
  | none => ((0, 0, 0, 0, 0), (0, 0, 0, 0), (0, 0, 0, 0))
/-- a part of a row, as cells -/
theorem rows_news {w : World} {base g n cap : Nat} {xs : List LT} (h : w.ownsRow base 43 13 (.slice (some ⟨g, 0, none⟩) n cap) n (flatR letF xs)) (hn : n = xs.length) (i m : Nat) (him : i + m ≤ xs.length) :
    ∀ j u, (flatR letF ((xs.drop i).take m))[j]? = some u → w.cell? ((⟨g, i * 13, none⟩ : Addr).add j) = some u := fun j u hu => by
  have hj := (List.getElem?_eq_some_iff.1 hu).1
  have hl := flatR_len letF_len ((xs.drop i).take m)
  have hlm : ((xs.drop i).take m).length = m := by rw [List.length_take, List.length_drop]; omega
  rw [hl, hlm] at hj
  have e1 : flatR letF xs = flatR letF (xs.take i) ++ (flatR letF ((xs.drop i).take m) ++ flatR letF ((xs.drop i).drop m)) := by
    rw [← flatR_append, List.take_append_drop, ← flatR_append, List.take_append_drop]
  have hli : (flatR letF (xs.take i)).length = i * 13 := by rw [flatR_len letF_len, List.length_take, Nat.min_eq_left (by omega)]
  rw [Addr.add_mid, h.cellAt (i * 13 + j) (by rw [hn]; omega), e1, List.getElem?_append_right (by omega), hli, Nat.add_sub_cancel_left, List.getElem?_append_left (by rw [hl, hlm]; exact hj)]
  exact hu
theorem letF_all (l : List LT) : ∀ u ∈ flatR letF l, u.oneCell' = true := fun u hu => by
  unfold flatR at hu
  obtain ⟨x, _, hx⟩ := List.mem_flatMap.1 hu
  exact letF_one x u hx


/-- what the laws ask -/
def loseF (c : CU) (k : Int) : CU × Bool := (outC c k, outB c k)
theorem lose_fit : Fit loseF := fun c k hk hw => by
  show okC (outC c k) ∧ wtCl (outC c k) ≤ 1200000
  unfold outC
  split
  · have hl : (c.net.take k.toNat ++ c.net.drop (k.toNat + 1)).length ≤ c.net.length := by rw [List.length_append, List.length_take, List.length_drop]; omega
    have := hk.net
    refine ⟨⟨hk.tree, hk.lpeers, hk.peers, ?_, hk.said, hk.pend⟩, ?_⟩
    · show ((c.net.take k.toNat ++ c.net.drop (k.toNat + 1)).length : Int) ≤ 1048576
      omega
    · unfold wtCl at hw ⊢
      simp only
      omega
  · exact ⟨hk, by omega⟩
theorem post_fit {c : CU} {l : List LT} (hk : okC c) (hw : wtCl c ≤ 1048576) (hl : l.length ≤ 60) : okC (postC c l) ∧ wtCl (postC c l) ≤ 1200000 := by
  unfold postC
  split
  · exact ⟨hk, by omega⟩
  · rename_i h
    refine ⟨⟨hk.tree, hk.lpeers, hk.peers, ?_, hk.said, hk.pend⟩, ?_⟩
    · show ((c.net ++ l).length : Int) ≤ 1048576
      rw [List.length_append]; omega
    · unfold wtCl at hw ⊢
      simp only [List.length_append]
      omega
theorem twice_fit : Fit twiceC := fun c k hk hw => by
  unfold twiceC
  split
  · exact post_fit hk hw (by unfold atC; split <;> simp)
  · show okC c ∧ wtCl c ≤ 1200000
    exact ⟨hk, by omega⟩

end Go.Proofs.Ytjieklilojmifat
