/-
  What the laws over a cluster and a number ask of a function. (Made by gl15.py.)
-/
import Derived.Test.YtcfgfhodbjakoavClusM
namespace Go.Proofs.Ytcfgfhodbjakoav
open Go.RowKit Num

def zeroC : Array Value := #[.int .i64 0, .bool false, .int .i64 0, .slice none 0 0, .slice none 0 0, .slice none 0 0, .slice none 0 0, .slice none 0 0]
theorem clusA_one {lo hi : Nat} {w : World} {c : CU} {s : CW} (h : OwnC lo hi w c s) : (clusA c s).all (·.oneCell') = true := by
  have t3 := own_oneC h.tree.row
  have t4 := own_oneC h.peers.row
  have t5 := own_oneC h.net
  have t6 := own_oneC h.said
  have t7 := own_oneC h.pend
  simp [clusA, show (Value.int .i64 c.n).oneCell' = true from rfl, show (Value.bool c.chain).oneCell' = true from rfl, show (Value.int .i64 c.liars).oneCell' = true from rfl, t3, t4, t5, t6, t7]
/-- a function of a cluster and a number: what it answers, in memory of its own -/
def Con (f : FuncId) (F : CU → Int → CU × Bool) : Prop := ∀ (c : CU) (s : CW) (lo hi : Nat) (k : Int) (w : World) (_ : OwnC lo hi w c s) (_ : okC c) (_ : goodC c) (_ : wtCl c ≤ 1048576) (_ : (Lit.int .i64 k).wf = true), Calls Try.prog f #[clusV c s, .int .i64 k] w fun e w' => ∃ s', e = .returned (.tuple #[clusV (F c k).1 s', .bool (F c k).2]) ∧ OwnC w.heap.size w'.heap.size w' (F c k).1 s' ∧ Below w.heap.size w w'
/-- what it answers is not too great -/
def Fit (F : CU → Int → CU × Bool) : Prop := ∀ (c : CU) (k : Int), okC c → wtCl c ≤ 1048576 → okC (F c k).1 ∧ wtCl (F c k).1 ≤ 1200000
/-- .. of a cluster and letters -/
def ConL (f : FuncId) (F : CU → List LT → CU × Bool) : Prop := ∀ (c : CU) (s : CW) (lo hi : Nat) (l : List LT) (lv : Value) (lb : Nat) (w : World) (_ : OwnC lo hi w c s) (_ : okC c) (_ : goodC c) (_ : wtCl c ≤ 1048576) (_ : w.ownsRow lb 35 13 lv l.length (flatR letF l)) (_ : (l.length : Int) ≤ 1048576) (_ : ∀ x ∈ l, wfL x), Calls Try.prog f #[clusV c s, lv] w fun e w' => ∃ s', e = .returned (.tuple #[clusV (F c l).1 s', .bool (F c l).2]) ∧ OwnC w.heap.size w'.heap.size w' (F c l).1 s' ∧ Below w.heap.size w w'
def FitL (F : CU → List LT → CU × Bool) : Prop := ∀ (c : CU) (l : List LT), okC c → wtCl c ≤ 1048576 → okC (F c l).1 ∧ wtCl (F c l).1 ≤ 1200000
/-- .. that answers a bool -/
def ConB (f : FuncId) (F : CU → Int → Bool) : Prop := ∀ (c : CU) (s : CW) (lo hi : Nat) (k : Int) (w : World) (_ : OwnC lo hi w c s) (_ : okC c) (_ : goodC c) (_ : wtCl c ≤ 1048576) (_ : (Lit.int .i64 k).wf = true), Calls Try.prog f #[clusV c s, .int .i64 k] w fun e w' => e = .returned (.bool (F c k)) ∧ Below w.heap.size w w'
/-- .. of three numbers, the second one a bool -/
def Con3 (f : FuncId) (F : Int → Bool → Int → CU × Bool) : Prop := ∀ (n : Int) (b : Bool) (l : Int) (w : World) (_ : (Lit.int .i64 n).wf = true) (_ : (Lit.int .i64 l).wf = true), Calls Try.prog f #[.int .i64 n, .bool b, .int .i64 l] w fun e w' => ∃ s', e = .returned (.tuple #[clusV (F n b l).1 s', .bool (F n b l).2]) ∧ OwnC w.heap.size w'.heap.size w' (F n b l).1 s' ∧ Below w.heap.size w w'
def Fit3 (F : Int → Bool → Int → CU × Bool) : Prop := ∀ n b l, okC (F n b l).1 ∧ wtCl (F n b l).1 ≤ 1200000

end Go.Proofs.Ytcfgfhodbjakoav
