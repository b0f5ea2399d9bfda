/-
  Contracts of the specification's drawing functions, more of them: a new cursor, picks, numbers, texts.
-/
import Derived.Test.YtfnneillakdopabDraw
namespace Go.Proofs.Ytfnneillakdopab
open Go.RowKit

theorem grown_none {a b : World} {r : Option Nat} (h : Below a.heap.size a b) : a.grownBy b r := ⟨h.os, h.tape, h.output, h.size, fun k hk _ => h.block k hk⟩

set_option maxRecDepth 100000 in
set_option maxHeartbeats 1000000 in
theorem new_any {w : World} {ao : Option Addr} {len cap b off : Nat} (hc : Code w ao len b off) :
    Calls Try.prog 54 #[.slice ao len cap] w fun e w' => ∃ N, e = .returned (.pointer (Option.some ⟨N, 0, none⟩)) ∧ w.heap.size ≤ N ∧ St w' N ao len cap b off ∧ Below w.heap.size w w' := by
  have hle := hc.le
  have HC : Hid (Code w ao len b off) := hc
  clear hc
  go_enter Try.func54, Try.ntmps54
  go_wp2
  go_loop [3, 4] (fun h i => ∃ (k : Nat) (H : Int), k ≤ len ∧ h = .int .i64 H ∧ i = .int .i64 k) (fun _ i => len - (intOf i).toNat)
  case atStart => exact ⟨0, _, Nat.zero_le _, rfl, rfl⟩
  case round =>
    obtain ⟨k, H, hk, rfl, rfl⟩ := hrel
    have fin : ∀ H : Int, ∃ N, Ending.returned (.pointer (Option.some ⟨w.heap.size, 0, none⟩)) = Ending.returned (.pointer (Option.some ⟨N, 0, none⟩)) ∧ w.heap.size ≤ N ∧ St (w.alloc (.cells #[.slice ao len cap, .int .i64 0, .int .i64 H] 98)) N ao len cap b off ∧ Below w.heap.size w (w.alloc (.cells #[.slice ao len cap, .int .i64 0, .int .i64 H] 98)) := fun H =>
      have hb : Below w.heap.size w (w.alloc (.cells #[.slice ao len cap, .int .i64 0, .int .i64 H] 98)) := (Below.refl _ _).alloc (Nat.le_refl _) _
      ⟨w.heap.size, rfl, Nat.le_refl _, ⟨HC.out.below hb, ⟨0, H, Nat.zero_le _, heap_alloc_new w _⟩, fun hl e => by have := HC.out.lt hl; omega⟩, hb⟩
    have HF : Hid _ := fin
    clear fin
    by_cases hlt : (k : Int) < len
    · by_cases h4 : (k : Int) < 4000
      · obtain rfl := HC.out.some (by omega)
        obtain ⟨z, hz0, hz1, hz⟩ := HC.out.cell k (by omega)
        have q0 : (0 : Int) ≤ (k : Int) := by omega
        go_wp2
        go_round
        case rel => exact ⟨k + 1, _, by omega, rfl, by go_num⟩
        case measure => simp [intOf]; omega
      · go_wp2
        go_ret
        exact HF.out _
    · go_wp2
      go_ret
      exact HF.out _

theorem pick_st {w : World} {B L : Nat} {ao : Option Addr} {len cap b off : Nat} (n : Nat) (hn : 0 < n) (hn2 : n ≤ 1000) (h : St w B ao len cap b off) (hL : L ≠ B) (hLl : L < w.heap.size) (hc : ∀ k, k < n → ∃ v : Int, w.cell? ⟨L, k, none⟩ = Option.some (.int .i64 v)) :
    Calls Try.prog 68 #[.pointer (Option.some ⟨B, 0, none⟩), .slice (Option.some ⟨L, 0, none⟩) n n] w fun e w' => ∃ x : Int, e = .returned (.int .i64 x) ∧ St w' B ao len cap b off ∧ w.grownBy w' (Option.some B) := by
  have H : Hid (St w B ao len cap b off) := h
  have HC : Hid (∀ k, k < n → ∃ v : Int, w.cell? ⟨L, k, none⟩ = Option.some (.int .i64 v)) := hc
  clear h hc
  go_enter Try.func68, Try.ntmps68
  go_wp2_with fail
  refine (below_st (n : Int) (by omega) (by omega) H.out).mono ?_
  rintro e w' ⟨x, rfl, hx0, hx1, hS, hg⟩
  obtain ⟨k, rfl⟩ := Int.eq_ofNat_of_zero_le hx0
  obtain ⟨v, hv⟩ := HC.out k (by omega)
  have hv' : w'.cell? ⟨L, k, none⟩ = Option.some (.int .i64 v) := by
    rw [World.cell?_of_block (w := w) (hg.block L hLl (fun e => hL (Option.some.inj e)))]; exact hv
  have HS : Hid (St w' B ao len cap b off) := hS
  clear hS hv
  go_wp2
  go_ret
  exact ⟨_, rfl, HS.out, hg⟩

theorem ten_cells (w : World) (a0 a1 a2 a3 a4 a5 a6 a7 a8 a9 : Int) (t : TypeId) : ∀ k, k < 10 → ∃ v : Int, (w.alloc (.cells #[.int .i64 a0, .int .i64 a1, .int .i64 a2, .int .i64 a3, .int .i64 a4, .int .i64 a5, .int .i64 a6, .int .i64 a7, .int .i64 a8, .int .i64 a9] t)).cell? ⟨w.heap.size, k, none⟩ = Option.some (.int .i64 v) := by
  intro k hk
  rw [cell_of_row _ w.heap.size k _ _ (0, 0) (heap_alloc_new w _)]
  match k, hk with
  | 0, _ => exact ⟨_, rfl⟩
  | 1, _ => exact ⟨_, rfl⟩
  | 2, _ => exact ⟨_, rfl⟩
  | 3, _ => exact ⟨_, rfl⟩
  | 4, _ => exact ⟨_, rfl⟩
  | 5, _ => exact ⟨_, rfl⟩
  | 6, _ => exact ⟨_, rfl⟩
  | 7, _ => exact ⟨_, rfl⟩
  | 8, _ => exact ⟨_, rfl⟩
  | 9, _ => exact ⟨_, rfl⟩

theorem own_apart {w : World} {base B n : Nat} {v : Value} {xs : List Value} {e : TypeId} (h : w.ownsRow base e 1 v n xs) (hB : B < base) : v.ownBlock = none ∨ v.ownBlock ≠ Option.some B := by
  cases e0 : v.ownBlock with
  | none => exact .inl rfl
  | some k => right; intro e; have := (h.lt k e0).1; have := Option.some.inj e; omega

theorem drawn_below {w w1 w2 : World} {B : Nat} (hb : Below w.heap.size w w1) (hB : w.heap.size ≤ B) (hg : w1.grownBy w2 (Option.some B)) : Below w.heap.size w w2 :=
  hb.grown hg hb.size fun k hk => by rw [Option.some.inj hk.symm]; exact hB

theorem grown_below {a b c : World} {r : Option Nat} (h : a.grownBy b r) (hb : Below a.heap.size b c) : a.grownBy c r :=
  ⟨hb.os.trans h.os, hb.tape.trans h.tape, hb.output.trans h.output, Nat.le_trans h.size hb.size, fun k hk hr => (hb.block k hk).trans (h.block k hk hr)⟩
theorem St.under {w w' : World} {B base : Nat} {ao : Option Addr} {len cap b off : Nat} (h : St w B ao len cap b off) (hb : Below base w w') (hB : B < base) (hbb : 0 < len → b < base) : St w' B ao len cap b off :=
  ⟨⟨h.code.le, h.code.some, fun k hk => by
    obtain ⟨z, h0, h1, h2⟩ := h.code.cell k hk
    exact ⟨z, h0, h1, by rw [hb.cell (by exact hbb (by omega))]; exact h2⟩, fun hl => Nat.lt_of_lt_of_le (h.code.lt hl) hb.size⟩, h.cur.keep (hb.block B hB), h.ne⟩
theorem push_base {base : Nat} {w2 w3 : World} {v v' : Value} {xs : List Int} {x : Int} {o : Obj} (hbase : base ≤ w2.heap.size) (hown : w2.ownsRow base 5 1 v xs.length (xs.map (Value.int .u8)))
    (hown' : w3.ownsRow base 5 1 v' (xs.length + 1) (xs.map (Value.int .u8) ++ [.int .u8 x])) (hg : (w2.alloc o).grownBy w3 v.ownBlock) :
    w3.ownsRow base 5 1 v' (xs ++ [x]).length ((xs ++ [x]).map (Value.int .u8)) ∧ Below base w2 w3 :=
  ⟨by simpa using hown', ((Below.refl base w2).alloc hbase o).grown hg (by simp; omega) fun k hk => (hown.lt k hk).1⟩

end Go.Proofs.Ytfnneillakdopab
