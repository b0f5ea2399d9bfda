/-
  The contracts of the program's takesBack: the function that takes one account back, and what it does to a map of accounts.
-/
import Derived.Test.YtjdddcldbfhbiaaUndoF
import Derived.Test.YtjdddcldbfhbiaaMapI
namespace Go.Proofs.Ytjdddcldbfhbiaa
open Go.RowKit Num Go.Maps

/-- which function takes it back -/
def takeF (u : UN) : Nat := if undoB u = false then 99 else if u.2.1 = true then 100 else 101
/-- .. and what it holds -/
def takeL (u : UN) (n : Nat) : Array Value := if undoB u = false then #[] else #[.pointer (some ⟨n, 0, none⟩)]

set_option maxRecDepth 100000 in
set_option maxHeartbeats 2000000 in
theorem takes_i (u : UN) (w : World) (hk : (u.1.size : Int) ≤ 1048576) :
    Calls Try.prog 75 #[undoV u] w fun e w' => e = .returned (.func (.func (takeF u)) #[] (takeL u w.heap.size)) ∧ w' = w.alloc (.cells #[.string u.1, .bool u.2.1, .int .i64 u.2.2] 48) := by
  obtain ⟨key, had, num⟩ := u
  have hmf : ∀ (fn : Fn) (first cap : Array Value) (w : World), (Instr.makeFunc fn first cap).run Try.prog w = .ok (.func fn first cap) w := fun _ _ _ _ => rfl
  simp only at hk
  unfold undoV
  cases hkb : keyB key with
  | false =>
    have hub : undoB (key, had, num) = false := by unfold undoB; simp only; rw [hkb]; rfl
    have HF : Hid (takeF (key, had, num) = 99) := if_pos hub
    have HL : Hid (takeL (key, had, num) w.heap.size = #[]) := if_pos hub
    clear hub
    go_enter Try.func75, Try.ntmps75
    go_wp2_with (first
      | (go_at_call 60; refine (key_i _ _ hk).mono ?_; rintro e w' ⟨rfl, rfl⟩; rw [hkb])
      | (go_at_call 61; refine (numOk_i _ _).mono ?_; rintro e w' ⟨rfl, rfl⟩))
    go_ret
    exact ⟨by rw [HF.out, HL.out]; rfl, rfl⟩
  | true =>
    cases hnb : numB num with
    | false =>
      have hub : undoB (key, had, num) = false := by unfold undoB; simp only; rw [hkb, hnb]; rfl
      have HF : Hid (takeF (key, had, num) = 99) := if_pos hub
      have HL : Hid (takeL (key, had, num) w.heap.size = #[]) := if_pos hub
      clear hub
      go_enter Try.func75, Try.ntmps75
      go_wp2_with (first
        | (go_at_call 60; refine (key_i _ _ hk).mono ?_; rintro e w' ⟨rfl, rfl⟩; rw [hkb])
        | (go_at_call 61; refine (numOk_i _ _).mono ?_; rintro e w' ⟨rfl, rfl⟩; rw [hnb]))
      go_ret
      exact ⟨by rw [HF.out, HL.out]; rfl, rfl⟩
    | true =>
      have hub : ¬ undoB (key, had, num) = false := by unfold undoB; simp only; rw [hkb, hnb]; simp
      have HL : Hid (takeL (key, had, num) w.heap.size = #[.pointer (some ⟨w.heap.size, 0, none⟩)]) := if_neg hub
      cases had with
      | true =>
        have HF : Hid (takeF (key, true, num) = 100) := (if_neg hub).trans (if_pos rfl)
        clear hub
        go_enter Try.func75, Try.ntmps75
        go_wp2_with (first
          | (go_at_call 60; refine (key_i _ _ hk).mono ?_; rintro e w' ⟨rfl, rfl⟩; rw [hkb])
          | (go_at_call 61; refine (numOk_i _ _).mono ?_; rintro e w' ⟨rfl, rfl⟩; rw [hnb]))
        go_ret
        exact ⟨by rw [HF.out, HL.out]; rfl, rfl⟩
      | false =>
        have HF : Hid (takeF (key, false, num) = 101) := (if_neg hub).trans (if_neg (by simp))
        clear hub
        go_enter Try.func75, Try.ntmps75
        go_wp2_with (first
          | (go_at_call 60; refine (key_i _ _ hk).mono ?_; rintro e w' ⟨rfl, rfl⟩; rw [hkb])
          | (go_at_call 61; refine (numOk_i _ _).mono ?_; rintro e w' ⟨rfl, rfl⟩; rw [hnb]))
        go_ret
        exact ⟨by rw [HF.out, HL.out]; rfl, rfl⟩

set_option maxRecDepth 100000 in
set_option maxHeartbeats 2000000 in
theorem take1_i (mb : Option Nat) (w : World) : Calls Try.prog 99 #[.map mb] w fun e w' => e = .returned (.tuple #[]) ∧ w' = w := by
  go_enter Try.func99, Try.ntmps99
  go_wp2
  go_end0
  exact ⟨rfl, rfl⟩

set_option maxRecDepth 100000 in
set_option maxHeartbeats 2000000 in
theorem take2_i (cs : CL) (b n : Nat) (key : ByteArray) (num : Int) (w : World) (hm : MapIs w b cs) (hA : Asc cs) (hl : cs.length ≤ 12) (hk : (key.size : Int) ≤ 1048576) (hnb : numB num = true) (c0 : w.cell? ⟨n, 0, none⟩ = some (.string key)) (c2 : w.cell? ⟨n, 2, none⟩ = some (.int .i64 num)) :
    Calls Try.prog 100 #[.map (some b), .pointer (some ⟨n, 0, none⟩)] w fun e w' => e = .returned (.tuple #[]) ∧ MapIs w' b (putC cs (key, num)) ∧ w.grownBy w' (some b) := by
  obtain ⟨D, hD, hrep⟩ := hm
  have HD : Hid (w.ownsMap Try.prog 9 (plainElem Try.prog 3) b cs.length D) := hD
  have HK : Hid (keyOf Try.prog 9 (.string key) = some (lk key)) := keyS hk
  have HW : Hid (plainElem (H := Unit) Try.prog 3 (.int .i64 num) = some (i64D num, [])) := elemI (numB_bd hnb)
  have HP : Hid (Rep (D.put (lk key) (i64D num)) (putC cs (key, num))) := rep_put (hD.tidy keyedS) hrep hA (key, num)
  have hlen : cs.length < maxLen := by unfold maxLen; omega
  clear hD hrep hA hnb
  go_enter Try.func100, Try.ntmps100
  go_wp2_with (at_mapUpdate; refine wpList_mapUpdate_own _ rfl _ _ _ 83 rfl 9 3 keyedS mapT _ b cs.length D rfl HD.out hlen _ _ _ rfl rfl HK.out _ [] HW.out ?_; intro w1 hown1 hgrow1)
  go_end0
  exact ⟨rfl, tight hown1 HP.out, hgrow1⟩

set_option maxRecDepth 100000 in
set_option maxHeartbeats 2000000 in
theorem take3_i (cs : CL) (b n : Nat) (key : ByteArray) (w : World) (hm : MapIs w b cs) (hA : Asc cs) (hk : (key.size : Int) ≤ 1048576) (c0 : w.cell? ⟨n, 0, none⟩ = some (.string key)) :
    Calls Try.prog 101 #[.map (some b), .pointer (some ⟨n, 0, none⟩)] w fun e w' => e = .returned (.tuple #[]) ∧ MapIs w' b (cs.filter fun c => decide (c.1 ≠ key)) ∧ w.grownBy w' (some b) := by
  obtain ⟨D, hD, hrep⟩ := hm
  have HD : Hid (w.ownsMap Try.prog 9 (plainElem Try.prog 3) b cs.length D) := hD
  have HK : Hid (keyOf Try.prog 9 (.string key) = some (lk key)) := keyS hk
  have hp := rep_del (hD.tidy keyedS) hrep hA key
  obtain ⟨ds, hds⟩ : ∃ ds, ds = cs.filter fun c => decide (c.1 ≠ key) := ⟨_, rfl⟩
  rw [← hds] at hp ⊢
  have HP : Hid (Rep (D.del (lk key)) ds) := hp
  clear hD hrep hA hp hds
  go_enter Try.func101, Try.ntmps101
  go_wp2_with (at_delete; refine wpList_delete_own _ rfl _ _ 83 9 rfl 3 keyedS mapT _ b _ _ rfl HD.out _ _ rfl HK.out ?_; intro w2 hown2 hturn2)
  go_end0
  exact ⟨rfl, tight hown2 HP.out, hturn2.grown⟩

theorem takes1 (u : UN) (w : World) (hk : (u.1.size : Int) ≤ 1048576) (h : undoB u = false) :
    Calls Try.prog 75 #[undoV u] w fun e w' => e = .returned (.func (.func 99) #[] #[]) ∧ w' = w.alloc (.cells #[.string u.1, .bool u.2.1, .int .i64 u.2.2] 48) := by
  have := takes_i u w hk
  rw [show takeF u = 99 from if_pos h, show takeL u w.heap.size = #[] from if_pos h] at this
  exact this
theorem takes2 (key : ByteArray) (num : Int) (w : World) (hk : (key.size : Int) ≤ 1048576) (h : undoB (key, true, num) = true) :
    Calls Try.prog 75 #[.agg #[.string key, .bool true, .int .i64 num]] w fun e w' => e = .returned (.func (.func 100) #[] #[.pointer (some ⟨w.heap.size, 0, none⟩)]) ∧ w' = w.alloc (.cells #[.string key, .bool true, .int .i64 num] 48) := by
  have hn : ¬ undoB (key, true, num) = false := by rw [h]; simp
  have := takes_i (key, true, num) w hk
  rw [show takeF (key, true, num) = 100 from (if_neg hn).trans (if_pos rfl), show takeL (key, true, num) w.heap.size = #[.pointer (some ⟨w.heap.size, 0, none⟩)] from if_neg hn] at this
  exact this
theorem takes3 (key : ByteArray) (num : Int) (w : World) (hk : (key.size : Int) ≤ 1048576) (h : undoB (key, false, num) = true) :
    Calls Try.prog 75 #[.agg #[.string key, .bool false, .int .i64 num]] w fun e w' => e = .returned (.func (.func 101) #[] #[.pointer (some ⟨w.heap.size, 0, none⟩)]) ∧ w' = w.alloc (.cells #[.string key, .bool false, .int .i64 num] 48) := by
  have hn : ¬ undoB (key, false, num) = false := by rw [h]; simp
  have := takes_i (key, false, num) w hk
  rw [show takeF (key, false, num) = 101 from (if_neg hn).trans (if_neg (by simp)), show takeL (key, false, num) w.heap.size = #[.pointer (some ⟨w.heap.size, 0, none⟩)] from if_neg hn] at this
  exact this

end Go.Proofs.Ytjdddcldbfhbiaa
