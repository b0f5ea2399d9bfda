/-
  The contract of the program's way down: for every loop body that leaves the tree as it is.
-/
import Derived.RangeFuncNested
import Derived.RangeFuncBound
import Derived.RangeFuncCalls
import Derived.RangeFuncLeaves
import Derived.Shelf.Abstract
import Derived.Shelf.RegionOpen
import Derived.WalkKit
import Derived.OwnWalkIn
import Derived.TacticsInMore
import Derived.LoopNIn
import Derived.LoopIn
import Derived.Test.YtjdddcldbfhbiabWayN
import Derived.Test.YtjdddcldbfhbiabHeightS
namespace Go.Proofs.Ytjdddcldbfhbiab
open Go.RowKit Num Go.Shelf

attribute [local go_sem] Oper.semAt_some

/-- what a round keeps: whatever lay below n₀, and the box of the tree -/
def KpW (n₀ Bs : Nat) (A B : World) : Prop := Below n₀ A B ∧ B.heap[Bs]? = A.heap[Bs]?
theorem kpW_refl (n₀ Bs : Nat) (A : World) : KpW n₀ Bs A A := ⟨Below.refl _ _, rfl⟩
theorem kpW_t {n₀ Bs : Nat} {A B C : World} (h : KpW n₀ Bs A B) (k : KpW n₀ Bs B C) : KpW n₀ Bs A C := ⟨h.1.trans k.1, k.2.trans h.2⟩
theorem kpW_b {n₀ Bs : Nat} {w : World} (hn : n₀ ≤ w.heap.size) (hB : Bs < w.heap.size) (W : World) (l : Nat) (o o' : Obj) (hl : w.heap.size ≤ l) (h : W.heap[l]? = some o) (h1 : o.isCells = false) (h2 : o.isWalk = false) : KpW n₀ Bs W (W.putObj l o') :=
  ⟨belowK_b hn W l o o' hl h h1 h2, World.putObj_heap_other (by omega)⟩

def encW (x : Int) : Array Value := #[.int .i64 x]

theorem pre_lt {l pre rest : List Int} {x : Int} (h : l = pre ++ x :: rest) : pre.length < l.length := by rw [h]; simp
theorem pre_is {l pre rest : List Int} {x : Int} (h : l = pre ++ x :: rest) : pre ++ [x] <+: l := ⟨rest, by rw [h]; simp⟩

set_option maxRecDepth 100000 in
set_option maxHeartbeats 2000000 in
theorem way1_in (F : Fence) (n : Nat) (hf : F.fn 79) (hro : F.round = none) (hn : 1 ≤ n) (l Bt Bk n₀ cap : Nat) (a : Option Addr) (ps : TL) (k : Int) (hlen : (ps.length : Int) ≤ 1048576) (J Jx : List Int → World → Prop)
    (hY : ∀ pre x W, J pre W → pre.length < (way (bks ps) k).length → YieldAt F (n - 1) Try.prog l (encW x) W fun e W' =>
      (e = .returned (.bool true) ∧ J (pre ++ [x]) W' ∧ KpW n₀ Bt W W') ∨ (e = .returned (.bool false) ∧ Jx (pre ++ [x]) W'))
    (W : World) (hBt : W.cell? ⟨Bt, 0, none⟩ = some (.slice a ps.length cap)) (hBk : W.cell? ⟨Bk, 0, none⟩ = some (.int .i64 k))
    (hI : 0 < ps.length → ∃ g off, a = some ⟨g, off, none⟩ ∧ g < n₀ ∧ ∀ j (_ : j < ps.length), W.cell? ⟨g, off + j * 7, none⟩ = some (.int .i64 ps[j].1.1.1)) (h0 : J [] W) :
    CallsIn F n Try.prog 79 #[.func (.yield l) #[] #[], .pointer (some ⟨Bt, 0, none⟩), .pointer (some ⟨Bk, 0, none⟩)] W fun e W' => (∃ v, e = .returned v) ∧
      ((∃ ys, ys = way (bks ps) k ∧ J ys W') ∨ (∃ pre, pre <+: way (bks ps) k ∧ Jx pre W')) := by
  refine callsIn_of_wp Try.func79 rfl hf ?_ hro
  simp only [Try.ntmps79, List.size_toArray, List.length_cons, List.length_nil, Nat.reduceAdd, Nat.reduceSub, Array.replicate_succ, Array.replicate_zero, List.push_toArray, List.append_toArray, List.nil_append, List.cons_append]
  have HI : Hid (0 < ps.length → ∃ g off, a = some ⟨g, off, none⟩ ∧ g < n₀ ∧ ∀ j (_ : j < ps.length), W.cell? ⟨g, off + j * 7, none⟩ = some (.int .i64 ps[j].1.1.1)) := hI
  have HB : Hid (W.cell? ⟨Bt, 0, none⟩ = some (.slice a ps.length cap)) := hBt
  have hbl := bks_len ps
  clear hI
  gi_wp2
  clear hBt hBk
  gi_loopw [4, 5] (fun ab p wr => ∃ (m : Nat) (x : Int) (pre : List Int), ab = .int .i64 (m : Int) ∧ p = .int .i64 x ∧ m ≤ ps.length ∧ Hid (way (bks ps) k = pre ++ wayA (bks ps) m x) ∧ J pre wr ∧ KpW n₀ Bt W wr)
    (fun ab _ _ => (intOf ab).toNat)
  case atStart => exact ⟨ps.length, k, [], rfl, rfl, Nat.le_refl _, (by unfold way; rw [hbl]; rfl : way (bks ps) k = [] ++ wayA (bks ps) ps.length k), h0, kpW_refl _ _ _⟩
  case round =>
    obtain ⟨m, x, pre, rfl, rfl, hm, HW, hJs, hnx⟩ := hrel
    by_cases hx : 0 ≤ x ∧ x < (m : Int)
    · obtain ⟨x0, x1⟩ := hx
      by_cases hz : x = 0
      · subst hz
        have hw : way (bks ps) k = pre ++ [0] := by rw [HW.out, wayA_zero _ (by omega)]
        have HW2 : Hid (way (bks ps) k = pre ++ [0]) := hw
        obtain ⟨fn, tmps, assign, body, hy, hR⟩ := hY pre 0 wr hJs (by rw [hw]; simp)
        unfold encW at hy
        clear hw
        gi_wp2
        refine hR.mono ?_
        rintro e W3 (⟨rfl, hJ3, hk3⟩ | ⟨rfl, hJx3⟩)
        · gi_wp2
          refine bodyPost_ret (results_none rfl _ _ _) rfl ?_
          exact ⟨⟨_, rfl⟩, .inl ⟨_, HW2.out.symm, hJ3⟩⟩
        · gi_wp2
          refine bodyPost_ret (results_none rfl _ _ _) rfl ?_
          exact ⟨⟨_, rfl⟩, .inr ⟨_, ⟨[], by rw [HW2.out]; simp⟩, hJx3⟩⟩
      · obtain ⟨j, rfl⟩ := Int.eq_ofNat_of_zero_le x0
        have hj : j < ps.length := by omega
        have hw : way (bks ps) k = pre ++ (j : Int) :: wayA (bks ps) j ps[j].1.1.1 := by rw [HW.out, wayA_step _ (by omega) (by omega), bks_par hj]
        have HW2 : Hid (way (bks ps) k = pre ++ (j : Int) :: wayA (bks ps) j ps[j].1.1.1) := hw
        have d0 : ((j : Int) == 0) = false := by simpa using hz
        have q1 : (j : Int) < ps.length := by omega
        obtain ⟨g, off, rfl, hg, hc⟩ := HI.out (by omega)
        obtain ⟨fn, tmps, assign, body, hy, hR⟩ := hY pre (j : Int) wr hJs (pre_lt hw)
        unfold encW at hy
        have c0 := hc j hj
        have HN : Hid (KpW n₀ Bt W wr) := hnx
        clear hw hc hnx hz
        gi_wp2
        refine hR.mono ?_
        rintro e W3 (⟨rfl, hJ3, hk3⟩ | ⟨rfl, hJx3⟩)
        · have hk4 := kpW_t HN.out hk3
          have c1 : W3.cell? ⟨g, off + j * 7, none⟩ = some (.int .i64 ps[j].1.1.1) := by rw [hk4.1.cell (by exact hg)]; exact c0
          have c2 : W3.cell? ⟨Bt, 0, none⟩ = some (.slice (some ⟨g, off, none⟩) ps.length cap) := by rw [World.cell?_of_block (w := W) hk4.2]; exact HB.out
          have HK4 : Hid (KpW n₀ Bt W W3) := hk4
          clear hk4 hk3 c0
          gi_wp2
          go_roundw
          case rel => exact ⟨j, ps[j].1.1.1, pre ++ [(j : Int)], rfl, rfl, by omega, (by rw [HW2.out]; simp : way (bks ps) k = (pre ++ [(j : Int)]) ++ wayA (bks ps) j ps[j].1.1.1), hJ3, HK4.out⟩
          case measure => simp [intOf]; omega
        · gi_wp2
          refine bodyPost_ret (results_none rfl _ _ _) rfl ?_
          exact ⟨⟨_, rfl⟩, .inr ⟨_, pre_is HW2.out, hJx3⟩⟩
    · have hw : way (bks ps) k = pre ++ [-1] := by rw [HW.out, wayA_out _ hx]
      have HW2 : Hid (way (bks ps) k = pre ++ [-1]) := hw
      obtain ⟨fn, tmps, assign, body, hy, hR⟩ := hY pre (-1) wr hJs (by rw [hw]; simp)
      unfold encW at hy
      clear hw
      by_cases x0 : 0 ≤ x
      · have x1 : ¬ x < (m : Int) := fun h => hx ⟨x0, h⟩
        clear hx
        gi_wp2
        refine hR.mono ?_
        rintro e W3 (⟨rfl, hJ3, hk3⟩ | ⟨rfl, hJx3⟩)
        · gi_wp2
          go_end0
          exact ⟨⟨_, rfl⟩, .inl ⟨_, HW2.out.symm, hJ3⟩⟩
        · gi_wp2
          go_end0
          exact ⟨⟨_, rfl⟩, .inr ⟨_, ⟨[], by rw [HW2.out]; simp⟩, hJx3⟩⟩
      · clear hx
        gi_wp2
        refine hR.mono ?_
        rintro e W3 (⟨rfl, hJ3, hk3⟩ | ⟨rfl, hJx3⟩)
        · gi_wp2
          go_end0
          exact ⟨⟨_, rfl⟩, .inl ⟨_, HW2.out.symm, hJ3⟩⟩
        · gi_wp2
          go_end0
          exact ⟨⟨_, rfl⟩, .inr ⟨_, ⟨[], by rw [HW2.out]; simp⟩, hJx3⟩⟩

set_option maxHeartbeats 1000000 in
/-- wayDown(tree, k): both are boxed; the function holds the boxes -/
theorem way_in (F : Fence) (n : Nat) (hf : F.fn 57) (hro : F.round = none) (a : Option Addr) (len cap : Nat) (k : Int) (w : World) :
    CallsIn F n Try.prog 57 #[.slice a len cap, .int .i64 k] w fun e w' => e = .returned (.func (.func 79) #[] #[.pointer (some ⟨w.heap.size, 0, none⟩), .pointer (some ⟨w.heap.size + 1, 0, none⟩)]) ∧ w' = (w.alloc (.cells #[.slice a len cap] 24)).alloc (.cells #[.int .i64 k] 3) := by
  refine callsIn_of_wp Try.func57 rfl hf ?_ hro
  simp only [Try.ntmps57, List.size_toArray, List.length_cons, List.length_nil, Nat.reduceAdd, Nat.reduceSub, Array.replicate_succ, Array.replicate_zero, List.push_toArray, List.append_toArray, List.nil_append, List.cons_append]
  gi_wp2
  go_ret
  exact ⟨by simp, rfl⟩

theorem way_stops (F : Fence) (n : Nat) (hf : F.fn 79) (hro : F.round = none) (hn : 1 ≤ n) (Bt Bk n₀ cap : Nat) (a : Option Addr) (ps : TL) (k : Int) (hlen : (ps.length : Int) ≤ 1048576) (w : World) (hBt : Bt < w.heap.size) (hBk : Bk < w.heap.size) (hn₀ : n₀ ≤ w.heap.size)
    (hc : w.cell? ⟨Bt, 0, none⟩ = some (.slice a ps.length cap)) (hk : w.cell? ⟨Bk, 0, none⟩ = some (.int .i64 k)) (hI : 0 < ps.length → ∃ g off, a = some ⟨g, off, none⟩ ∧ g < n₀ ∧ ∀ j (_ : j < ps.length), w.cell? ⟨g, off + j * 7, none⟩ = some (.int .i64 ps[j].1.1.1)) :
    SeqStopsK F n Try.prog 79 #[.pointer (some ⟨Bt, 0, none⟩), .pointer (some ⟨Bk, 0, none⟩)] encW (KpW n₀ Bt) (fun ys => ys = way (bks ps) k) (fun pre => pre <+: way (bks ps) k) (way (bks ps) k).length w := fun l J Jx W hW _ _ hY h0 =>
  way1_in F n hf hro hn l Bt Bk n₀ cap a ps k hlen J Jx hY W ((hW.cell (p := ⟨Bt, 0, none⟩) hBt).trans hc) ((hW.cell (p := ⟨Bk, 0, none⟩) hBk).trans hk) (fun h => by
    obtain ⟨g, off, e, hg, hcs⟩ := hI h
    exact ⟨g, off, e, hg, fun j hj => ((hW.mono hn₀).cell (p := ⟨g, off + j * 7, none⟩) hg).trans (hcs j hj)⟩) h0

end Go.Proofs.Ytjdddcldbfhbiab
