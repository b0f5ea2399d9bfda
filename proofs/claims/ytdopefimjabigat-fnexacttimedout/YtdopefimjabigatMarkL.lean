/-
  Marks laid into rows of votes and of letters, and asked for: each cell has its number. (Made by gm9.py.)
-/
import Derived.Test.YtdopefimjabigatJ0
import Derived.Test.YtdopefimjabigatLetOpen
namespace Go.Proofs.Ytdopefimjabigat
open Go.RowKit Num

/-- N cells with the numbers from k on -/
def icells (k N : Nat) : List Value := (List.range N).map fun (i : Nat) => Value.int .i64 ((k : Int) + (i : Int))
theorem icells_len (k N : Nat) : (icells k N).length = N := by simp [icells]
theorem icells_at {k N i : Nat} (h : i < N) : (icells k N)[i]? = some (.int .i64 ((k : Int) + (i : Int))) := by simp [icells, h]
/-- the first j of N cells have their marks -/
def upC (k N : Nat) (ys : List Value) (j : Nat) : Prop := ys.length = N ∧ ∀ i, i < j → ys[i]? = some (.int .i64 ((k : Int) + (i : Int)))
theorem upC_step {k N j : Nat} {ys : List Value} (h : upC k N ys j) (hj : j < N) : upC k N (ys.set j (.int .i64 ((k : Int) + (j : Int)))) (j + 1) := by
  refine ⟨by simp [h.1], fun i hi => ?_⟩
  by_cases e : j = i
  · subst e; rw [List.getElem?_set_self (by rw [h.1]; exact hj)]
  · rw [List.getElem?_set_ne e]; exact h.2 i (by omega)
theorem upC_all {k N : Nat} {ys : List Value} (h : upC k N ys N) : ys = icells k N := by
  apply List.ext_getElem?
  intro i
  by_cases hi : i < N
  · rw [h.2 i hi, icells_at hi]
  · rw [List.getElem?_eq_none (by rw [h.1]; omega), List.getElem?_eq_none (by rw [icells_len]; omega)]
/-- a row whose first j cells have their marks -/
def MkS (base : Nat) (e : TypeId) (c : Nat) (v : Value) (n k j : Nat) (w : World) : Prop := ∃ ys, w.ownsRow base e c v n ys ∧ upC k (n * c) ys j
theorem MkS.cast {base : Nat} {e : TypeId} {c : Nat} {v : Value} {n k j j' : Nat} {w : World} (h : MkS base e c v n k j w) (hj : j = j') : MkS base e c v n k j' w := hj ▸ h
theorem MkS.all {base : Nat} {e : TypeId} {c : Nat} {v : Value} {n k j : Nat} {w : World} (h : MkS base e c v n k j w) (hj : j = n * c) : w.ownsRow base e c v n (icells k (n * c)) := by
  subst hj
  obtain ⟨ys, ho, hu⟩ := h
  rw [← upC_all hu]; exact ho

section
variable {P : Program} {ops : Array Oper} {rest : List Oper} {op : Oper} {a : Act} {w : World} {Q : Exit → Act → World → Prop}
theorem wpList_mark (hgd : op.guard = none) (ty : TypeId) (x y : Operand) (ho : op.op = .store ty x y) (base : Nat) (e : TypeId) (c n cap g k j o : Nat) (u : Int) (hm : MkS base e c (.slice (some ⟨g, 0, none⟩) n cap) n k j w) (hx : a.eval x = .pointer (some ⟨g, o, none⟩)) (hok : o = j) (hy : a.eval y = .int .i64 u) (huk : u = (k : Int) + (j : Int))
    (hj : j < n * c) (hi : (P.info? ty).map (·.size) = some 1)
    (h : ∀ w', w.grownBy w' (some g) → MkS base e c (.slice (some ⟨g, 0, none⟩) n cap) n k (j + 1) w' → wpList P ops Q rest (a.put op.dst undef) w') : wpList P ops Q (op :: rest) a w := by
  subst hok huk
  obtain ⟨ys, hown, hu⟩ := hm
  exact wpList_store_own hgd ty x y ho base e c n cap g o _ ys hx hy hown hj hi rfl fun w' hg hw => h w' hg ⟨_, hw, upC_step hu hj⟩
end

set_option maxRecDepth 100000 in
set_option maxHeartbeats 4000000 in
theorem markVotes_own (n k : Nat) (v : Value) (base : Nat) (xs : List Value) (w : World) (h : w.ownsRow base 35 4 v n xs) (hk2 : k ≤ 20000000) (hn : n ≤ 1048576) :
    Calls Try.prog 43 #[v, .int .i64 k] w fun e w' => e = .returned (.int .i64 ((k + 4 * n : Nat) : Int)) ∧ w'.ownsRow base 35 4 v n (icells k (n * 4)) ∧ w.grownBy w' v.ownBlock := by
  obtain ⟨a, cap, rfl, hg⟩ := own_form h
  have HG : Hid (0 < n → ∃ g, a = some ⟨g, 0, none⟩) := hg
  have HO : Hid (w.ownsRow base 35 4 (.slice a n cap) n xs) := h
  clear hg h
  go_enter Try.func43, Try.ntmps43
  go_wp2
  go_loopw [1, 5] (fun q i wr => ∃ m : Nat, m ≤ n ∧ q = .int .i64 ((k + 4 * m : Nat) : Int) ∧ i = .int .i64 m ∧ Hid (MkS base 35 4 (.slice a n cap) n k (m * 4) wr) ∧ Hid (w.grownBy wr (Value.slice a n cap).ownBlock)) (fun _ i _ => n - (intOf i).toNat)
  case atStart => exact ⟨0, Nat.zero_le _, by simp, rfl, ⟨xs, HO.out, by rw [HO.out.1], fun i hi => by omega⟩, ⟨rfl, rfl, rfl, Nat.le_refl _, fun _ _ _ => rfl⟩⟩
  case round =>
    obtain ⟨m, hm, rfl, rfl, HMS, HGR⟩ := hrel
    by_cases hlt : (m : Int) < n
    · have q0 : (0 : Int) ≤ (m : Int) := by omega
      obtain ⟨g, rfl⟩ := HG.out (by omega)
      have HGR : Hid (w.grownBy wr (some g)) := HGR
      go_wp2_with (refine wpList_mark rfl _ _ _ rfl base 35 4 n cap g k _ _ _ HMS.out rfl (by omega) rfl (by omega) (by omega) (by kernel_rfl) ?_; intro w' hg hm'; replace HMS := hid hm'; replace HGR := hid (grown_trans HGR.out hg); clear hg hm')
      go_roundw
      case rel => exact ⟨m + 1, by omega, by go_num, by go_num, MkS.cast HMS.out (by omega), HGR.out⟩
      case measure => simp [intOf]; omega
    · have hmn : m = n := by omega
      have HM : Hid (m = n) := hmn
      clear hmn
      go_wp2
      go_ret
      exact ⟨ret_int (by rw [HM.out]), HMS.out.all (by rw [HM.out]), HGR.out⟩
set_option maxRecDepth 100000 in
set_option maxHeartbeats 4000000 in
theorem heldVotes_own (n k : Nat) (v : Value) (base : Nat) (w : World) (h : w.ownsRow base 35 4 v n (icells k (n * 4))) (hk2 : k ≤ 20000000) (hn : n ≤ 1048576) :
    Calls Try.prog 48 #[v, .int .i64 k] w fun e w' => e = .returned (.int .i64 ((k + 4 * n : Nat) : Int)) ∧ w' = w := by
  obtain ⟨a, cap, rfl, hg⟩ := own_form h
  have HG : Hid (0 < n → ∃ g, a = some ⟨g, 0, none⟩) := hg
  have HO : Hid (w.ownsRow base 35 4 (.slice a n cap) n (icells k (n * 4))) := h
  clear hg h
  go_enter Try.func48, Try.ntmps48
  go_wp2
  go_loopw [1, 5] (fun q i wr => ∃ m : Nat, m ≤ n ∧ q = .int .i64 ((k + 4 * m : Nat) : Int) ∧ i = .int .i64 m ∧ wr = w) (fun _ i _ => n - (intOf i).toNat)
  case atStart => exact ⟨0, Nat.zero_le _, by simp, rfl, rfl⟩
  case round =>
    obtain ⟨m, hm, rfl, rfl, rfl⟩ := hrel
    by_cases hlt : (m : Int) < n
    · have q0 : (0 : Int) ≤ (m : Int) := by omega
      obtain ⟨g, rfl⟩ := HG.out (by omega)
      have c0 : wr.cell? ⟨g, m * 4, none⟩ = some (.int .i64 ((k : Int) + 4 * (m : Int))) := by rw [HO.out.cellAt _ (by omega), icells_at (by omega)]; congr 2; omega
      have c1 : wr.cell? ⟨g, m * 4 + 1, none⟩ = some (.int .i64 ((k : Int) + 4 * (m : Int) + 1)) := by rw [HO.out.cellAt _ (by omega), icells_at (by omega)]; congr 2; omega
      have c2 : wr.cell? ⟨g, m * 4 + 2, none⟩ = some (.int .i64 ((k : Int) + 4 * (m : Int) + 1 + 1)) := by rw [HO.out.cellAt _ (by omega), icells_at (by omega)]; congr 2; omega
      have c3 : wr.cell? ⟨g, m * 4 + 3, none⟩ = some (.int .i64 ((k : Int) + 4 * (m : Int) + 1 + 1 + 1)) := by rw [HO.out.cellAt _ (by omega), icells_at (by omega)]; congr 2; omega
      go_wp2
      go_roundw
      case rel => exact ⟨m + 1, by omega, by go_num, by go_num, trivial⟩
      case measure => simp [intOf]; omega
    · have hmn : m = n := by omega
      have HM : Hid (m = n) := hmn
      clear hmn
      go_wp2
      go_ret
      exact ⟨ret_int (by rw [HM.out]), rfl⟩

set_option maxRecDepth 100000 in
set_option maxHeartbeats 4000000 in
theorem markLetters_own (n k : Nat) (v : Value) (base : Nat) (xs : List Value) (w : World) (h : w.ownsRow base 43 13 v n xs) (hk2 : k ≤ 20000000) (hn : n ≤ 1048576) :
    Calls Try.prog 44 #[v, .int .i64 k] w fun e w' => e = .returned (.int .i64 ((k + 13 * n : Nat) : Int)) ∧ w'.ownsRow base 43 13 v n (icells k (n * 13)) ∧ w.grownBy w' v.ownBlock := by
  obtain ⟨a, cap, rfl, hg⟩ := own_form h
  have HG : Hid (0 < n → ∃ g, a = some ⟨g, 0, none⟩) := hg
  have HO : Hid (w.ownsRow base 43 13 (.slice a n cap) n xs) := h
  clear hg h
  go_enter Try.func44, Try.ntmps44
  go_wp2
  go_loopw [1, 5] (fun q i wr => ∃ m : Nat, m ≤ n ∧ q = .int .i64 ((k + 13 * m : Nat) : Int) ∧ i = .int .i64 m ∧ Hid (MkS base 43 13 (.slice a n cap) n k (m * 13) wr) ∧ Hid (w.grownBy wr (Value.slice a n cap).ownBlock)) (fun _ i _ => n - (intOf i).toNat)
  case atStart => exact ⟨0, Nat.zero_le _, by simp, rfl, ⟨xs, HO.out, by rw [HO.out.1], fun i hi => by omega⟩, ⟨rfl, rfl, rfl, Nat.le_refl _, fun _ _ _ => rfl⟩⟩
  case round =>
    obtain ⟨m, hm, rfl, rfl, HMS, HGR⟩ := hrel
    by_cases hlt : (m : Int) < n
    · have q0 : (0 : Int) ≤ (m : Int) := by omega
      obtain ⟨g, rfl⟩ := HG.out (by omega)
      have HGR : Hid (w.grownBy wr (some g)) := HGR
      go_wp2_with (refine wpList_mark rfl _ _ _ rfl base 43 13 n cap g k _ _ _ HMS.out rfl (by omega) rfl (by omega) (by omega) (by kernel_rfl) ?_; intro w' hg hm'; replace HMS := hid hm'; replace HGR := hid (grown_trans HGR.out hg); clear hg hm')
      go_roundw
      case rel => exact ⟨m + 1, by omega, by go_num, by go_num, MkS.cast HMS.out (by omega), HGR.out⟩
      case measure => simp [intOf]; omega
    · have hmn : m = n := by omega
      have HM : Hid (m = n) := hmn
      clear hmn
      go_wp2
      go_ret
      exact ⟨ret_int (by rw [HM.out]), HMS.out.all (by rw [HM.out]), HGR.out⟩
set_option maxRecDepth 100000 in
set_option maxHeartbeats 4000000 in
theorem heldLetters_own (n k : Nat) (v : Value) (base : Nat) (w : World) (h : w.ownsRow base 43 13 v n (icells k (n * 13))) (hk2 : k ≤ 20000000) (hn : n ≤ 1048576) :
    Calls Try.prog 49 #[v, .int .i64 k] w fun e w' => e = .returned (.int .i64 ((k + 13 * n : Nat) : Int)) ∧ w' = w := by
  obtain ⟨a, cap, rfl, hg⟩ := own_form h
  have HG : Hid (0 < n → ∃ g, a = some ⟨g, 0, none⟩) := hg
  have HO : Hid (w.ownsRow base 43 13 (.slice a n cap) n (icells k (n * 13))) := h
  clear hg h
  go_enter Try.func49, Try.ntmps49
  go_wp2
  go_loopw [1, 5] (fun q i wr => ∃ m : Nat, m ≤ n ∧ q = .int .i64 ((k + 13 * m : Nat) : Int) ∧ i = .int .i64 m ∧ wr = w) (fun _ i _ => n - (intOf i).toNat)
  case atStart => exact ⟨0, Nat.zero_le _, by simp, rfl, rfl⟩
  case round =>
    obtain ⟨m, hm, rfl, rfl, rfl⟩ := hrel
    by_cases hlt : (m : Int) < n
    · have q0 : (0 : Int) ≤ (m : Int) := by omega
      obtain ⟨g, rfl⟩ := HG.out (by omega)
      have c0 : wr.cell? ⟨g, m * 13, none⟩ = some (.int .i64 ((k : Int) + 13 * (m : Int))) := by rw [HO.out.cellAt _ (by omega), icells_at (by omega)]; congr 2; omega
      have c1 : wr.cell? ⟨g, m * 13 + 1, none⟩ = some (.int .i64 ((k : Int) + 13 * (m : Int) + 1)) := by rw [HO.out.cellAt _ (by omega), icells_at (by omega)]; congr 2; omega
      have c2 : wr.cell? ⟨g, m * 13 + 2, none⟩ = some (.int .i64 ((k : Int) + 13 * (m : Int) + 1 + 1)) := by rw [HO.out.cellAt _ (by omega), icells_at (by omega)]; congr 2; omega
      have c3 : wr.cell? ⟨g, m * 13 + 3, none⟩ = some (.int .i64 ((k : Int) + 13 * (m : Int) + 1 + 1 + 1)) := by rw [HO.out.cellAt _ (by omega), icells_at (by omega)]; congr 2; omega
      have c4 : wr.cell? ⟨g, m * 13 + 4, none⟩ = some (.int .i64 ((k : Int) + 13 * (m : Int) + 1 + 1 + 1 + 1)) := by rw [HO.out.cellAt _ (by omega), icells_at (by omega)]; congr 2; omega
      have c5 : wr.cell? ⟨g, m * 13 + 5, none⟩ = some (.int .i64 ((k : Int) + 13 * (m : Int) + 1 + 1 + 1 + 1 + 1)) := by rw [HO.out.cellAt _ (by omega), icells_at (by omega)]; congr 2; omega
      have c6 : wr.cell? ⟨g, m * 13 + 6, none⟩ = some (.int .i64 ((k : Int) + 13 * (m : Int) + 1 + 1 + 1 + 1 + 1 + 1)) := by rw [HO.out.cellAt _ (by omega), icells_at (by omega)]; congr 2; omega
      have c7 : wr.cell? ⟨g, m * 13 + 7, none⟩ = some (.int .i64 ((k : Int) + 13 * (m : Int) + 1 + 1 + 1 + 1 + 1 + 1 + 1)) := by rw [HO.out.cellAt _ (by omega), icells_at (by omega)]; congr 2; omega
      have c8 : wr.cell? ⟨g, m * 13 + 8, none⟩ = some (.int .i64 ((k : Int) + 13 * (m : Int) + 1 + 1 + 1 + 1 + 1 + 1 + 1 + 1)) := by rw [HO.out.cellAt _ (by omega), icells_at (by omega)]; congr 2; omega
      have c9 : wr.cell? ⟨g, m * 13 + 9, none⟩ = some (.int .i64 ((k : Int) + 13 * (m : Int) + 1 + 1 + 1 + 1 + 1 + 1 + 1 + 1 + 1)) := by rw [HO.out.cellAt _ (by omega), icells_at (by omega)]; congr 2; omega
      have c10 : wr.cell? ⟨g, m * 13 + 10, none⟩ = some (.int .i64 ((k : Int) + 13 * (m : Int) + 1 + 1 + 1 + 1 + 1 + 1 + 1 + 1 + 1 + 1)) := by rw [HO.out.cellAt _ (by omega), icells_at (by omega)]; congr 2; omega
      have c11 : wr.cell? ⟨g, m * 13 + 11, none⟩ = some (.int .i64 ((k : Int) + 13 * (m : Int) + 1 + 1 + 1 + 1 + 1 + 1 + 1 + 1 + 1 + 1 + 1)) := by rw [HO.out.cellAt _ (by omega), icells_at (by omega)]; congr 2; omega
      have c12 : wr.cell? ⟨g, m * 13 + 12, none⟩ = some (.int .i64 ((k : Int) + 13 * (m : Int) + 1 + 1 + 1 + 1 + 1 + 1 + 1 + 1 + 1 + 1 + 1 + 1)) := by rw [HO.out.cellAt _ (by omega), icells_at (by omega)]; congr 2; omega
      go_wp2
      go_roundw
      case rel => exact ⟨m + 1, by omega, by go_num, by go_num, trivial⟩
      case measure => simp [intOf]; omega
    · have hmn : m = n := by omega
      have HM : Hid (m = n) := hmn
      clear hmn
      go_wp2
      go_ret
      exact ⟨ret_int (by rw [HM.out]), rfl⟩

end Go.Proofs.Ytdopefimjabigat
