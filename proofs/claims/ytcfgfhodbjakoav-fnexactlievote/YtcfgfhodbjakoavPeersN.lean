/-
  Rows of replicas marked, and looked at again. (Made by gpm15.py.)
-/
import Derived.Test.YtcfgfhodbjakoavFrS
namespace Go.Proofs.Ytcfgfhodbjakoav
open Go.RowKit Num

def vmarks (k n : Nat) : List VT := (List.range n).map fun (i : Nat) => ((k : Int) + (i * 4 + 0 : Nat), (k : Int) + (i * 4 + 1 : Nat), (k : Int) + (i * 4 + 2 : Nat), (k : Int) + (i * 4 + 3 : Nat))
def lmarks (k n : Nat) : List LT := (List.range n).map fun (i : Nat) => (((k : Int) + (i * 13 + 0 : Nat), (k : Int) + (i * 13 + 1 : Nat), (k : Int) + (i * 13 + 2 : Nat), (k : Int) + (i * 13 + 3 : Nat), (k : Int) + (i * 13 + 4 : Nat)), ((k : Int) + (i * 13 + 5 : Nat), (k : Int) + (i * 13 + 6 : Nat), (k : Int) + (i * 13 + 7 : Nat), (k : Int) + (i * 13 + 8 : Nat)), ((k : Int) + (i * 13 + 9 : Nat), (k : Int) + (i * 13 + 10 : Nat), (k : Int) + (i * 13 + 11 : Nat), (k : Int) + (i * 13 + 12 : Nat)))
def lmarks1 (k n : Nat) : List LT := [(((k : Int) + (n * 13 + 0 : Nat), (k : Int) + (n * 13 + 1 : Nat), (k : Int) + (n * 13 + 2 : Nat), (k : Int) + (n * 13 + 3 : Nat), (k : Int) + (n * 13 + 4 : Nat)), ((k : Int) + (n * 13 + 5 : Nat), (k : Int) + (n * 13 + 6 : Nat), (k : Int) + (n * 13 + 7 : Nat), (k : Int) + (n * 13 + 8 : Nat)), ((k : Int) + (n * 13 + 9 : Nat), (k : Int) + (n * 13 + 10 : Nat), (k : Int) + (n * 13 + 11 : Nat), (k : Int) + (n * 13 + 12 : Nat)))]
theorem vmarks_len (k n : Nat) : (vmarks k n).length = n := by simp [vmarks]
theorem lmarks_len (k n : Nat) : (lmarks k n).length = n := by simp [lmarks]
theorem vmarks_flat (k n : Nat) : flatR voteF (vmarks k n) = icells k (n * 4) := by
  induction n with
  | zero => rfl
  | succ n ih =>
    have e : vmarks k (n + 1) = vmarks k n ++ [((k : Int) + (n * 4 + 0 : Nat), (k : Int) + (n * 4 + 1 : Nat), (k : Int) + (n * 4 + 2 : Nat), (k : Int) + (n * 4 + 3 : Nat))] := by simp only [vmarks, List.range_succ, List.map_append, List.map_cons, List.map_nil]
    have e2 : icells k ((n + 1) * 4) = icells k (n * 4) ++ [.int .i64 ((k : Int) + (n * 4 + 0 : Nat)), .int .i64 ((k : Int) + (n * 4 + 1 : Nat)), .int .i64 ((k : Int) + (n * 4 + 2 : Nat)), .int .i64 ((k : Int) + (n * 4 + 3 : Nat))] := by
      rw [show (n + 1) * 4 = n * 4 + 3 + 1 by omega]
      simp only [icells, List.range_succ, List.map_append, List.map_cons, List.map_nil, List.append_assoc, List.cons_append, List.nil_append]
      simp
    rw [e, flatR_append, ih, e2]
    rfl
theorem lmarks_flat (k n : Nat) : flatR letF (lmarks k n) = icells k (n * 13) := by
  induction n with
  | zero => rfl
  | succ n ih =>
    have e2 : icells k ((n + 1) * 13) = icells k (n * 13) ++ [.int .i64 ((k : Int) + (n * 13 + 0 : Nat)), .int .i64 ((k : Int) + (n * 13 + 1 : Nat)), .int .i64 ((k : Int) + (n * 13 + 2 : Nat)), .int .i64 ((k : Int) + (n * 13 + 3 : Nat)), .int .i64 ((k : Int) + (n * 13 + 4 : Nat)), .int .i64 ((k : Int) + (n * 13 + 5 : Nat)), .int .i64 ((k : Int) + (n * 13 + 6 : Nat)), .int .i64 ((k : Int) + (n * 13 + 7 : Nat)), .int .i64 ((k : Int) + (n * 13 + 8 : Nat)), .int .i64 ((k : Int) + (n * 13 + 9 : Nat)), .int .i64 ((k : Int) + (n * 13 + 10 : Nat)), .int .i64 ((k : Int) + (n * 13 + 11 : Nat)), .int .i64 ((k : Int) + (n * 13 + 12 : Nat))] := by
      rw [show (n + 1) * 13 = n * 13 + 12 + 1 by omega]
      simp only [icells, List.range_succ, List.map_append, List.map_cons, List.map_nil, List.append_assoc, List.cons_append, List.nil_append]
      simp
    have e : lmarks k (n + 1) = lmarks k n ++ lmarks1 k n := by simp only [lmarks, lmarks1, List.range_succ, List.map_append, List.map_cons, List.map_nil]
    rw [e, flatR_append, ih, e2]
    rfl
/-- cells set in the middle of a row -/
theorem set_mid {A B : List Value} {k : Nat} (h : A.length = k) (j : Nat) (u : Value) : (A ++ B).set (k + j) u = A ++ B.set j u := by
  subst h
  rw [List.set_append_right _ _ (by omega), Nat.add_sub_cancel_left]
theorem set_mid0 {A B : List Value} {k : Nat} (h : A.length = k) (u : Value) : (A ++ B).set k u = A ++ B.set 0 u := set_mid h 0 u
theorem flatP_mid {L : PL} {m : Nat} (hm : m < L.length) : flatR peerF L = flatR peerF (L.take m) ++ (peerF L[m] ++ flatR peerF (L.drop (m + 1))) ∧ (flatR peerF (L.take m)).length = m * 21 ∧ ∀ y, flatR peerF (L.set m y) = flatR peerF (L.take m) ++ (peerF y ++ flatR peerF (L.drop (m + 1))) := by
  have e1 : L = L.take m ++ L[m] :: L.drop (m + 1) := by rw [← List.drop_eq_getElem_cons hm, List.take_append_drop]
  have hl : (L.take m).length = m := by rw [List.length_take]; omega
  refine ⟨?_, by rw [flatR_len peerF_len, hl], fun y => ?_⟩
  · conv => lhs; rw [e1]
    rw [flatR_append]; rfl
  · have e2 : L.set m y = L.take m ++ y :: L.drop (m + 1) := by
      conv => lhs; rw [e1]
      rw [List.set_append_right _ _ (by omega), hl, Nat.sub_self, List.set_cons_zero]
    rw [e2, flatR_append]; rfl
set_option maxRecDepth 100000 in
theorem flatP_set20 {L : PL} {m : Nat} (hm : m < L.length) (p : PE) (s : PV) (hat : L[m] = (p, s)) (z : Int) : (flatR peerF L).set (m * 21 + 20) (.int .i64 z) = flatR peerF (L.set m ({ p with shown := z }, s)) := by
  obtain ⟨e1, hl, e2⟩ := flatP_mid hm
  rw [e2, e1, hat]
  rw [set_mid hl]
  rfl
/-- a set of blocks that holds all of theirs -/
def LimP (B : Nat → Prop) (v : Value) (ps : PL) : Prop := (∀ g, v.ownBlock = some g → B g) ∧ ∀ x ∈ ps, ∀ g, inSix x.2 g → B g


end Go.Proofs.Ytcfgfhodbjakoav
