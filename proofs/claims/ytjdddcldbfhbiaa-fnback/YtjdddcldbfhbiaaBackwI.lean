/-
  The library's slices.Backward over a row of what accounts had: its contract, for every loop body that leaves the row as it is.
-/
import Derived.RangeFuncNested
import Derived.RangeFuncBound
import Derived.RangeFuncCalls
import Derived.RangeFuncLeaves
import Derived.Shelf.Abstract
import Derived.Shelf.RegionOpen
import Derived.WalkKit
import Derived.OwnWalkIn
import Derived.TacticsInMore
import Derived.LoopNIn
import Derived.LoopIn
import Derived.Test.YtjdddcldbfhbiaaUndoF
namespace Go.Proofs.Ytjdddcldbfhbiaa
open Go.RowKit Num Go.Shelf

attribute [local go_sem] Oper.semAt_some

/-- what a round is handed: the place, and what the account had, its key no longer than is met -/
abbrev US := { u : UN // (u.1.size : Int) ≤ 1048576 }
abbrev BI := Nat × US
def us0 : US := ⟨(ByteArray.empty, false, 0), by decide⟩
def encB (x : BI) : Array Value := #[.int .i64 (x.1 : Int), undoV x.2.1]

/-- the round k's item, of a row of these -/
def backAt (us : List US) (k : Nat) : BI := (us.length - 1 - k, us[us.length - 1 - k]?.getD us0)
/-- what has come when k rounds are over -/
def backTo (us : List US) (k : Nat) : List BI := (List.range k).map (backAt us)
theorem backTo_succ (us : List US) (k : Nat) : backTo us (k + 1) = backTo us k ++ [backAt us k] := by simp [backTo, List.range_succ]
theorem backTo_len (us : List US) (k : Nat) : (backTo us k).length = k := by simp [backTo]

/-- what a round keeps: whatever lay below n₀, and the box of the row -/
def KpB (n₀ Bs : Nat) (A B : World) : Prop := Below n₀ A B ∧ B.heap[Bs]? = A.heap[Bs]?
theorem kpB_refl (n₀ Bs : Nat) (A : World) : KpB n₀ Bs A A := ⟨Below.refl _ _, rfl⟩
theorem kpB_t {n₀ Bs : Nat} {A B C : World} (h : KpB n₀ Bs A B) (k : KpB n₀ Bs B C) : KpB n₀ Bs A C := ⟨h.1.trans k.1, k.2.trans h.2⟩
theorem kpB_b {n₀ Bs : Nat} {w : World} (hn : n₀ ≤ w.heap.size) (hB : Bs < w.heap.size) (W : World) (l : Nat) (o o' : Obj) (hl : w.heap.size ≤ l) (h : W.heap[l]? = some o) (h1 : o.isCells = false) (h2 : o.isWalk = false) : KpB n₀ Bs W (W.putObj l o') :=
  ⟨belowK_b hn W l o o' hl h h1 h2, World.putObj_heap_other (by omega)⟩

set_option maxRecDepth 100000 in
set_option maxHeartbeats 2000000 in
theorem back1_in (F : Fence) (n : Nat) (hf : F.fn 98) (hro : F.round = none) (hn : 1 ≤ n) (l Bs n₀ b off cap : Nat) (us : List US) (hlen : (us.length : Int) ≤ 1048576) (hb : b < n₀) (J Jx : List BI → World → Prop)
    (hY : ∀ pre x W, J pre W → pre.length < us.length → YieldAt F (n - 1) Try.prog l (encB x) W fun e W' =>
      (e = .returned (.bool true) ∧ J (pre ++ [x]) W' ∧ KpB n₀ Bs W W') ∨ (e = .returned (.bool false) ∧ Jx (pre ++ [x]) W'))
    (W : World) (hBs : W.cell? ⟨Bs, 0, none⟩ = some (.slice (some ⟨b, off, none⟩) us.length cap)) (hc : ∀ j (h : j < us.length) i, i < 3 → W.cell? ⟨b, off + j * 3 + i, none⟩ = (undoF us[j].1)[i]?) (h0 : J [] W) :
    CallsIn F n Try.prog 98 #[.func (.yield l) #[] #[], .pointer (some ⟨Bs, 0, none⟩)] W fun e W' => (∃ v, e = .returned v) ∧
      ((∃ ys, ys = backTo us us.length ∧ J ys W') ∨ (∃ pre, (∃ k, k ≤ us.length ∧ pre = backTo us k) ∧ Jx pre W')) := by
  refine callsIn_of_wp Try.func98 rfl hf ?_ hro
  simp only [Try.ntmps98, List.size_toArray, List.length_cons, List.length_nil, Nat.reduceAdd, Nat.reduceSub, Array.replicate_succ, Array.replicate_zero, List.push_toArray, List.append_toArray, List.nil_append, List.cons_append]
  have HC : Hid (∀ j (h : j < us.length) i, i < 3 → W.cell? ⟨b, off + j * 3 + i, none⟩ = (undoF us[j].1)[i]?) := hc
  have HB : Hid (W.cell? ⟨Bs, 0, none⟩ = some (.slice (some ⟨b, off, none⟩) us.length cap)) := hBs
  clear hc
  gi_wp2
  clear hBs
  gi_loopw [3] (fun i wr => ∃ k : Nat, k ≤ us.length ∧ i = .int .i64 ((k : Int) - 1) ∧ J (backTo us (us.length - k)) wr ∧ KpB n₀ Bs W wr)
    (fun i _ => (intOf i + 1).toNat)
  case atStart => exact ⟨us.length, Nat.le_refl _, rfl, by rw [Nat.sub_self]; exact h0, kpB_refl _ _ _⟩
  case round =>
    obtain ⟨k, hk, rfl, hJs, hnx⟩ := hrel
    cases k with
    | zero =>
      rw [show (((0 : Nat) : Int) - 1) = -1 from rfl]
      gi_wp2
      go_end0
      exact ⟨⟨_, rfl⟩, .inl ⟨_, rfl, hJs⟩⟩
    | succ j =>
      have hj : j < us.length := by omega
      have hbox : wr.cell? ⟨Bs, 0, none⟩ = some (.slice (some ⟨b, off, none⟩) us.length cap) := by rw [World.cell?_of_block (w := W) hnx.2]; exact HB.out
      have c0 : wr.cell? ⟨b, off + j * 3, none⟩ = some (.string us[j].1.1) := by rw [hnx.1.cell (by exact hb)]; exact HC.out j hj 0 (by omega)
      have c1 : wr.cell? ⟨b, off + j * 3 + 1, none⟩ = some (.bool us[j].1.2.1) := by rw [hnx.1.cell (by exact hb)]; exact HC.out j hj 1 (by omega)
      have c2 : wr.cell? ⟨b, off + j * 3 + 2, none⟩ = some (.int .i64 us[j].1.2.2) := by rw [hnx.1.cell (by exact hb)]; exact HC.out j hj 2 (by omega)
      have hat : backAt us (us.length - (j + 1)) = (j, us[j]) := by
        unfold backAt
        rw [show us.length - 1 - (us.length - (j + 1)) = j by omega, List.getElem?_eq_getElem hj]; rfl
      obtain ⟨fn, tmps, assign, body, hy, hR⟩ := hY _ (j, us[j]) wr hJs (by rw [backTo_len]; omega)
      unfold encB undoV at hy
      dsimp only at hy
      rw [show (((j + 1 : Nat) : Int) - 1) = (j : Int) by omega]
      have q0 : (0 : Int) ≤ (j : Int) := by omega
      have q1 : (j : Int) < us.length := by omega
      have HN : Hid (KpB n₀ Bs W wr) := hnx
      have HAT : Hid (backAt us (us.length - (j + 1)) = (j, us[j])) := hat
      clear hnx hat
      gi_wp2
      refine hR.mono ?_
      rintro e W3 (⟨rfl, hJ3, hk3⟩ | ⟨rfl, hJx3⟩)
      · gi_wp2
        go_roundw
        case rel => exact ⟨j, by omega, rfl, by rw [show us.length - j = us.length - (j + 1) + 1 by omega, backTo_succ, HAT.out]; exact hJ3, kpB_t HN.out hk3⟩
        case measure => simp [intOf]
      · gi_wp2
        refine bodyPost_ret (results_none rfl _ _ _) rfl ?_
        exact ⟨⟨_, rfl⟩, .inr ⟨_, ⟨us.length - (j + 1) + 1, by omega, by rw [backTo_succ, HAT.out]⟩, hJx3⟩⟩

set_option maxRecDepth 100000 in
set_option maxHeartbeats 1000000 in
/-- .. where there is none: no round -/
theorem back1_nil_in (F : Fence) (n : Nat) (hf : F.fn 98) (hro : F.round = none) (l Bs : Nat) (a : Option Addr) (cap : Nat) (J : List BI → World → Prop) (W : World) (hBs : W.cell? ⟨Bs, 0, none⟩ = some (.slice a 0 cap)) (h0 : J [] W) :
    CallsIn F n Try.prog 98 #[.func (.yield l) #[] #[], .pointer (some ⟨Bs, 0, none⟩)] W fun e W' => (∃ v, e = .returned v) ∧ J [] W' := by
  refine callsIn_of_wp Try.func98 rfl hf ?_ hro
  simp only [Try.ntmps98, List.size_toArray, List.length_cons, List.length_nil, Nat.reduceAdd, Nat.reduceSub, Array.replicate_succ, Array.replicate_zero, List.push_toArray, List.append_toArray, List.nil_append, List.cons_append]
  gi_wp2
  gi_loopw [3] (fun i wr => i = .int .i64 (-1) ∧ J [] wr) (fun _ _ => 0)
  case atStart => exact ⟨rfl, h0⟩
  case round =>
    obtain ⟨rfl, hJs⟩ := hrel
    gi_wp2
    go_end0
    exact ⟨⟨_, rfl⟩, hJs⟩

set_option maxHeartbeats 1000000 in
/-- slices.Backward(us): the row's value is boxed; the function holds the box -/
theorem backward_in (F : Fence) (n : Nat) (hf : F.fn 74) (hro : F.round = none) (a : Option Addr) (len cap : Nat) (w : World) :
    CallsIn F n Try.prog 74 #[.slice a len cap] w fun e w' => e = .returned (.func (.func 98) #[] #[.pointer (some ⟨w.heap.size, 0, none⟩)]) ∧ w' = w.alloc (.cells #[.slice a len cap] 44) := by
  refine callsIn_of_wp Try.func74 rfl hf ?_ hro
  simp only [Try.ntmps74, List.size_toArray, List.length_cons, List.length_nil, Nat.reduceAdd, Nat.reduceSub, Array.replicate_succ, Array.replicate_zero, List.push_toArray, List.append_toArray, List.nil_append, List.cons_append]
  gi_wp2
  go_ret
  exact ⟨rfl, rfl⟩

theorem backward_stops (F : Fence) (n : Nat) (hf : F.fn 98) (hro : F.round = none) (hn : 1 ≤ n) (Bs n₀ : Nat) (a : Option Addr) (cap : Nat) (us : List US) (hlen : (us.length : Int) ≤ 1048576) (w : World) (hBs : Bs < w.heap.size) (hn₀ : n₀ ≤ w.heap.size)
    (hc : w.cell? ⟨Bs, 0, none⟩ = some (.slice a us.length cap)) (hI : 0 < us.length → ∃ g off, a = some ⟨g, off, none⟩ ∧ g < n₀ ∧ ∀ j (h : j < us.length) i, i < 3 → w.cell? ⟨g, off + j * 3 + i, none⟩ = (undoF us[j].1)[i]?) :
    SeqStopsK F n Try.prog 98 #[.pointer (some ⟨Bs, 0, none⟩)] encB (KpB n₀ Bs) (fun ys => ys = backTo us us.length) (fun pre => ∃ k, k ≤ us.length ∧ pre = backTo us k) us.length w := fun l J Jx W hW _ _ hY h0 => by
  have hc' := (hW.cell (p := ⟨Bs, 0, none⟩) hBs).trans hc
  by_cases h : 0 < us.length
  · obtain ⟨g, off, rfl, hg, hcs⟩ := hI h
    exact back1_in F n hf hro hn l Bs n₀ g off cap us hlen hg J Jx hY W hc' (fun j hj i hi => ((hW.mono hn₀).cell (p := ⟨g, off + j * 3 + i, none⟩) hg).trans (hcs j hj i hi)) h0
  · have e : us.length = 0 := by omega
    rw [e] at hc'
    exact (back1_nil_in F n hf hro l Bs a cap J W hc' h0).mono fun e' W' ⟨he, hj⟩ => ⟨he, .inl ⟨_, rfl, by rw [e]; exact hj⟩⟩

end Go.Proofs.Ytjdddcldbfhbiaa
