/-
  Contracts of the specification's drawing functions: what is drawn is some number within its bounds; the cursor's own block alone turns.
-/
import Derived.Test.YtfnneillakdopabOwn
import Derived.Test.YtfnneillakdopabBw
import Derived.Laws.OwnMore
namespace Go.Proofs.Ytfnneillakdopab
open Go.RowKit

theorem and255 (x : Int) : 0 ≤ bits .and .i64 x 255 ∧ bits .and .i64 x 255 ≤ 255 := by
  unfold bits
  simp only
  have h : (BitVec.ofInt IntKind.i64.bits x &&& BitVec.ofInt IntKind.i64.bits 255).toNat ≤ 255 := by
    rw [BitVec.toNat_and]
    exact Nat.le_trans Nat.and_le_right (by decide)
  generalize (BitVec.ofInt IntKind.i64.bits x &&& BitVec.ofInt IntKind.i64.bits 255).toNat = n at h
  rw [IntKind.wrap_i64]
  omega

/-- the drawn bytes, as they came in: they lie in an old block, or there are none -/
structure Code (w : World) (ao : Option Addr) (len b off : Nat) : Prop where
  le : len ≤ 1048576
  some : 0 < len → ao = Option.some ⟨b, off, none⟩
  cell : ∀ k, k < len → ∃ z : Int, 0 ≤ z ∧ z ≤ 255 ∧ w.cell? ⟨b, off + k, none⟩ = Option.some (.int .u8 z)
  lt : 0 < len → b < w.heap.size
theorem Code.grown {w w' : World} {ao : Option Addr} {len b off : Nat} {r : Option Nat} (h : Code w ao len b off) (hg : w.grownBy w' r) (hr : 0 < len → Option.some b ≠ r) : Code w' ao len b off :=
  ⟨h.le, h.some, fun k hk => by
    obtain ⟨z, h0, h1, h2⟩ := h.cell k hk
    exact ⟨z, h0, h1, by rw [World.cell?_of_block (w := w) (hg.block b (h.lt (by omega)) (hr (by omega)))]; exact h2⟩, fun hl => Nat.lt_of_lt_of_le (h.lt hl) hg.size⟩
theorem Code.below {w w' : World} {ao : Option Addr} {len b off : Nat} (h : Code w ao len b off) (hg : Below w.heap.size w w') : Code w' ao len b off :=
  ⟨h.le, h.some, fun k hk => by
    obtain ⟨z, h0, h1, h2⟩ := h.cell k hk
    exact ⟨z, h0, h1, by rw [hg.cell (by exact h.lt (by omega))]; exact h2⟩, fun hl => Nat.lt_of_lt_of_le (h.lt hl) hg.size⟩

/-- the cursor's block -/
def Cur (w : World) (B : Nat) (ao : Option Addr) (len cap : Nat) : Prop :=
  ∃ (i : Nat) (h : Int), i ≤ len ∧ w.heap[B]? = Option.some (.cells #[.slice ao len cap, .int .i64 (i : Int), .int .i64 h] 98 (0, 0))
theorem Cur.keep {w w' : World} {B : Nat} {ao : Option Addr} {len cap : Nat} (h : Cur w B ao len cap) (hg : w'.heap[B]? = w.heap[B]?) : Cur w' B ao len cap := by
  obtain ⟨i, x, h1, h2⟩ := h
  exact ⟨i, x, h1, by rw [hg]; exact h2⟩
theorem Cur.lt {w : World} {B : Nat} {ao : Option Addr} {len cap : Nat} (h : Cur w B ao len cap) : B < w.heap.size := by
  obtain ⟨i, x, h1, h2⟩ := h
  rcases Nat.lt_or_ge B w.heap.size with h | h
  · exact h
  · rw [Array.getElem?_eq_none h] at h2; simp at h2

theorem cur_set {w : World} {B : Nat} {a b c v : Value} {t : TypeId} (h : w.heap[B]? = Option.some (.cells #[a, b, c] t (0, 0))) :
    (w.setCell ⟨B, 2, none⟩ v).heap[B]? = Option.some (.cells #[a, b, v] t (0, 0)) ∧ (w.setCell ⟨B, 1, none⟩ v).heap[B]? = Option.some (.cells #[a, v, c] t (0, 0)) :=
  ⟨heap_setCell_same w B 2 _ t v h, heap_setCell_same w B 1 _ t v h⟩
theorem grown_tr {a b c : World} {r : Option Nat} (h : a.grownBy b r) (k : b.grownBy c r) : a.grownBy c r :=
  ⟨k.os.trans h.os, k.tape.trans h.tape, k.output.trans h.output, Nat.le_trans h.size k.size, fun i hi hr => (k.block i (Nat.lt_of_lt_of_le hi h.size) hr).trans (h.block i hi hr)⟩

theorem grown_drew {a b : World} {r : Option Nat} (h : a.grownBy b r) (n : Nat) : a.grownBy (b.drewN n) r := ⟨h.os, h.tape, h.output, h.size, h.block⟩

set_option maxRecDepth 100000 in
set_option maxHeartbeats 1000000 in
theorem byte_any (w : World) (B : Nat) (ao : Option Addr) (len cap b off : Nat) (hc : Code w ao len b off) (hB : Cur w B ao len cap) (hne : 0 < len → b ≠ B) :
    Calls Try.prog 55 #[.pointer (Option.some ⟨B, 0, none⟩)] w fun e w' => ∃ x : Int, e = .returned (.int .i64 x) ∧ 0 ≤ x ∧ x ≤ 255 ∧ Cur w' B ao len cap ∧ w.grownBy w' (Option.some B) := by
  obtain ⟨i, h, hi1, hb⟩ := hB
  have hle := hc.le
  have c0 : w.cell? ⟨B, 0, none⟩ = Option.some (.slice ao len cap) := by rw [cell_of_row w B 0 _ _ (0, 0) hb]; rfl
  have c1 : w.cell? ⟨B, 1, none⟩ = Option.some (.int .i64 (i : Int)) := by rw [cell_of_row w B 1 _ _ (0, 0) hb]; rfl
  have c2 : w.cell? ⟨B, 2, none⟩ = Option.some (.int .i64 h) := by rw [cell_of_row w B 2 _ _ (0, 0) hb]; rfl
  have f2 : w.frozen? ⟨B, 2, none⟩ = false := frozen_of_row w B 2 _ _ hb
  have f1 : w.frozen? ⟨B, 1, none⟩ = false := frozen_of_row w B 1 _ _ hb
  have HB : Hid (w.heap[B]? = Option.some (.cells #[.slice ao len cap, .int .i64 (i : Int), .int .i64 h] 98 (0, 0))) := hb
  clear hb
  by_cases hlt : (i : Int) < len
  · obtain rfl := hc.some (by omega)
    obtain ⟨z, hz0, hz1, hz⟩ := hc.cell i (by omega)
    have hbB := hne (by omega)
    have q0 : (0 : Int) ≤ (i : Int) := by omega
    have hz2 : ∀ v : Value, (w.setCell ⟨B, 2, none⟩ v).cell? ⟨b, off + i, none⟩ = Option.some (.int .u8 z) := fun v => by
      rw [World.cell?_of_block (w := w) (heap_setCell_other w ⟨B, 2, none⟩ b v (by exact hbB))]; exact hz
    clear hc hne
    go_enter Try.func55, Try.ntmps55
    go_wp2
    generalize wrap64 (wrap64 (h * 6364136223846793005) + 1442695040888963407) = H
    go_quiet (fail)
    have hx0 := and255 (bits .xor .i64 (H / 8589934592) (H / 35184372088832))
    generalize bits .and .i64 (bits .xor .i64 (H / 8589934592) (H / 35184372088832)) 255 = x0 at hx0 ⊢
    go_wp2
    go_quiet (fail)
    go_wp2
    go_quiet (fail)
    go_wp2
    go_ret
    refine ⟨_, rfl, (and255 _).1, (and255 _).2, ?_, ?_⟩
    · refine ⟨i + 1, H, by omega, ?_⟩
      have e := (cur_set (v := .int .i64 ((i : Int) + 1)) (cur_set (v := .int .i64 H) HB.out).1).2
      exact e
    · exact grown_tr (grown_drew (set_grown w B 2 (.int .i64 H)) _) (set_grown _ B 1 _)
  · have q0 : (0 : Int) ≤ (i : Int) := by omega
    clear hc hne
    go_enter Try.func55, Try.ntmps55
    go_wp2
    generalize wrap64 (wrap64 (h * 6364136223846793005) + 1442695040888963407) = H
    go_quiet (fail)
    have hx0 := and255 (bits .xor .i64 (H / 8589934592) (H / 35184372088832))
    generalize bits .and .i64 (bits .xor .i64 (H / 8589934592) (H / 35184372088832)) 255 = x0 at hx0 ⊢
    go_wp2
    go_quiet (fail)
    go_wp2
    go_ret
    refine ⟨_, rfl, hx0.1, hx0.2, ⟨i, H, hi1, ?_⟩, ?_⟩
    · exact (cur_set HB.out).1
    · exact grown_drew (grown_drew (set_grown w B 2 _) _) _

/-- the cursor and what it reads -/
structure St (w : World) (B : Nat) (ao : Option Addr) (len cap b off : Nat) : Prop where
  code : Code w ao len b off
  cur : Cur w B ao len cap
  ne : 0 < len → b ≠ B
theorem St.step {w w' : World} {B : Nat} {ao : Option Addr} {len cap b off : Nat} (h : St w B ao len cap b off) (hc : Cur w' B ao len cap) (hg : w.grownBy w' (Option.some B)) : St w' B ao len cap b off :=
  ⟨h.code.grown hg (fun hl e => h.ne hl (Option.some.inj e)), hc, h.ne⟩
theorem St.below {w w' : World} {B : Nat} {ao : Option Addr} {len cap b off : Nat} (h : St w B ao len cap b off) (hb : Below w.heap.size w w') : St w' B ao len cap b off :=
  ⟨h.code.below hb, h.cur.keep (hb.block B h.cur.lt), h.ne⟩

theorem byte_st {w : World} {B : Nat} {ao : Option Addr} {len cap b off : Nat} (h : St w B ao len cap b off) :
    Calls Try.prog 55 #[.pointer (Option.some ⟨B, 0, none⟩)] w fun e w' => ∃ x : Int, e = .returned (.int .i64 x) ∧ 0 ≤ x ∧ x ≤ 255 ∧ St w' B ao len cap b off ∧ w.grownBy w' (Option.some B) :=
  (byte_any w B ao len cap b off h.code h.cur h.ne).mono fun _ _ ⟨x, he, h0, h1, hc, hg⟩ => ⟨x, he, h0, h1, h.step hc hg, hg⟩

set_option maxHeartbeats 1000000 in
theorem below_st {w : World} {B : Nat} {ao : Option Addr} {len cap b off : Nat} (n : Int) (hn : 0 < n) (hn2 : n ≤ 1000000000) (h : St w B ao len cap b off) :
    Calls Try.prog 56 #[.pointer (Option.some ⟨B, 0, none⟩), .int .i64 n] w fun e w' => ∃ x : Int, e = .returned (.int .i64 x) ∧ 0 ≤ x ∧ x < n ∧ St w' B ao len cap b off ∧ w.grownBy w' (Option.some B) := by
  have H : Hid (St w B ao len cap b off) := h
  clear h
  by_cases h256 : n ≤ 256
  · go_enter Try.func56, Try.ntmps56
    go_wp2_with (go_at_call 55; refine (byte_st H.out).mono ?_; rintro e w' ⟨x, rfl, hx0, hx1, hS, hg⟩; have HS : Hid (St w' B ao len cap b off) := hS; clear hS)
    go_ret
    exact ⟨_, rfl, Int.emod_nonneg _ (by omega), Int.emod_lt_of_pos _ hn, HS.out, hg⟩
  · go_enter Try.func56, Try.ntmps56
    go_wp2_with fail
    refine (byte_st H.out).mono ?_
    rintro e w1 ⟨x1, rfl, hx10, hx11, hS1, hg1⟩
    have HS1 : Hid (St w1 B ao len cap b off) := hS1
    clear hS1
    go_wp2_with fail
    refine (byte_st HS1.out).mono ?_
    rintro e w2 ⟨x2, rfl, hx20, hx21, hS2, hg2⟩
    have HS2 : Hid (St w2 B ao len cap b off) := hS2
    clear hS2
    go_wp2_with fail
    refine (byte_st HS2.out).mono ?_
    rintro e w3 ⟨x3, rfl, hx30, hx31, hS3, hg3⟩
    have HS3 : Hid (St w3 B ao len cap b off) := hS3
    clear hS3
    go_wp2_with fail
    refine (byte_st HS3.out).mono ?_
    rintro e w4 ⟨x4, rfl, hx40, hx41, hS4, hg4⟩
    have HS4 : Hid (St w4 B ao len cap b off) := hS4
    clear hS4
    go_wp2
    go_ret
    exact ⟨_, rfl, Int.emod_nonneg _ (by omega), Int.emod_lt_of_pos _ hn, HS4.out, grown_tr (grown_tr (grown_tr hg1 hg2) hg3) hg4⟩

theorem once_st {w : World} {B : Nat} {ao : Option Addr} {len cap b off : Nat} (n : Int) (hn : 0 < n) (hn2 : n ≤ 1000000000) (h : St w B ao len cap b off) :
    Calls Try.prog 60 #[.pointer (Option.some ⟨B, 0, none⟩), .int .i64 n] w fun e w' => ∃ x : Bool, e = .returned (.bool x) ∧ St w' B ao len cap b off ∧ w.grownBy w' (Option.some B) := by
  have H : Hid (St w B ao len cap b off) := h
  clear h
  go_enter Try.func60, Try.ntmps60
  go_wp2_with (go_at_call 56; refine (below_st _ hn hn2 H.out).mono ?_; rintro e w' ⟨x, rfl, hx0, hx1, hS, hg⟩; have HS : Hid (St w' B ao len cap b off) := hS; clear hS)
  go_ret
  exact ⟨_, rfl, HS.out, hg⟩
end Go.Proofs.Ytfnneillakdopab
