/-
  A letter's text: the contract of the program's.
-/
import Derived.Test.YtnghhfgbobpnkaoDoorLetTS
import Derived.Test.YtnghhfgbobpnkaoDoorSealI
import Derived.Test.YtnghhfgbobpnkaoDoorTxtI
namespace Go.Proofs.YtnghhfgbobpnkaoDoor
open Go.RowKit Num

theorem nums_letter (k f t v b q0 q1 q2 q3 v0 v1 v2 v3 : Int) : strOfNums (numsL [k, f, t, v, b] ++ numsL [q0, q1, q2, q3] ++ numsL [v0, v1, v2, v3]) = letT ((k, f, t, v, b), (q0, q1, q2, q3), (v0, v1, v2, v3)) := by
  rw [← str_append, ← str_append, nums_four, nums_four, show [k, f, t, v, b] = [k] ++ [f] ++ [t] ++ [v] ++ [b] from rfl, nums_app, nums_app, nums_app, nums_app, nums_one, nums_one, nums_one, nums_one, nums_one]; rfl
set_option maxRecDepth 100000 in
set_option maxHeartbeats 4000000 in
theorem letterText_i (l : LT) (w : World) (hl : fitL l) (ht : Hid (Tabs w)) :
    Calls Tryd.prog 6 #[letV l] w fun e w' => e = .returned (.string (letS l)) ∧ Below w.heap.size w w' := by
  obtain ⟨⟨k, f, t, v, b⟩, ⟨q0, q1, q2, q3⟩, ⟨v0, v1, v2, v3⟩⟩ := l
  obtain ⟨⟨h0, h1, h2, h3, h4⟩, ⟨h5, h6, h7, h8⟩, ⟨h9, h10, h11, h12⟩⟩ := hl
  unfold letV
  simp only at h0 h1 h2 h3 h4 h5 h6 h7 h8 h9 h10 h11 h12 ⊢
  have HN : Hid (strOfNums (numsL [k, f, t, v, b] ++ numsL [q0, q1, q2, q3] ++ numsL [v0, v1, v2, v3]) = letT ((k, f, t, v, b), (q0, q1, q2, q3), (v0, v1, v2, v3))) := nums_letter k f t v b q0 q1 q2 q3 v0 v1 v2 v3
  have HZ : Hid (((letT ((k, f, t, v, b), (q0, q1, q2, q3), (v0, v1, v2, v3))).size : Int) ≤ 20000 ∧ (numsL [k, f, t, v, b]).length ≤ 50 ∧ (numsL [q0, q1, q2, q3]).length ≤ 40) := by
    have n0 := numsL_len (ns := [k, f, t, v, b]) (by intro n hn; simp at hn; omega)
    have n1 := numsL_len (ns := [q0, q1, q2, q3]) (by intro n hn; simp at hn; omega)
    have n2 := numsL_len (ns := [v0, v1, v2, v3]) (by intro n hn; simp at hn; omega)
    simp only [List.length_cons, List.length_nil] at n0 n1 n2
    refine ⟨?_, by omega, by omega⟩
    rw [← HN.out, strOfNums_size, List.length_append, List.length_append]; omega
  obtain ⟨W1, hW1⟩ : ∃ W1, W1 = w.alloc (.cells #[.int .i64 k, .int .i64 f, .int .i64 t, .int .i64 v, .int .i64 b, .int .i64 q0, .int .i64 q1, .int .i64 q2, .int .i64 q3, .int .i64 v0, .int .i64 v1, .int .i64 v2, .int .i64 v3] 32) := ⟨_, rfl⟩
  have HB1 : Hid (Below w.heap.size w W1) := (by rw [hW1]; exact ba (Below.refl _ _) _ : Below w.heap.size w W1)
  have HK1 : Hid (W1.heap[w.heap.size]? = some (.cells #[.int .i64 k, .int .i64 f, .int .i64 t, .int .i64 v, .int .i64 b, .int .i64 q0, .int .i64 q1, .int .i64 q2, .int .i64 q3, .int .i64 v0, .int .i64 v1, .int .i64 v2, .int .i64 v3] 32 (0, 0))) := (by rw [hW1]; exact heap_alloc_new w _ : W1.heap[w.heap.size]? = _)
  have l1 : w.heap.size ≤ W1.heap.size := HB1.out.size
  have HE1 : Hid (W1.heap.size = w.heap.size + 1) := (by rw [hW1]; simp : W1.heap.size = w.heap.size + 1)
  go_enter Tryd.func6, Tryd.ntmps6
  have c0 := blk_cell HK1.out 0 (.int .i64 k) rfl
  have c1 := blk_cell HK1.out 1 (.int .i64 f) rfl
  have c2 := blk_cell HK1.out 2 (.int .i64 t) rfl
  have c3 := blk_cell HK1.out 3 (.int .i64 v) rfl
  have c4 := blk_cell HK1.out 4 (.int .i64 b) rfl
  rw [hW1] at c0 c1 c2 c3 c4
  go_wp2_with fail
  rw [← hW1]
  clear c0 c1 c2 c3 c4 hW1
  refine (appendNumbers_i w.heap.size [] (.slice none 0 0) [k, f, t, v, b] _ 5 3 _ (by intro n hn; simp at hn; omega) (by simp) (by simp; omega) (World.ownsRow_nil _ _ _ _) ?_ (by decide)).mono ?_
  · have := heap_alloc_new W1 (.cells #[.int .i64 k, .int .i64 f, .int .i64 t, .int .i64 v, .int .i64 b] 3)
    rw [HE1.out] at this
    simpa using this
  rintro e w2 ⟨u2, rfl, hu2⟩
  rw [List.nil_append] at hu2
  have HA2 : Hid (w2.ownsRow w.heap.size 5 1 u2 (numsL [k, f, t, v, b]).length ((numsL [k, f, t, v, b]).map (Value.int .u8))) := hu2.1
  have HK2 : Hid (Kp5 w.heap.size W1 w2) := ((Kp5.refl w.heap.size W1).alloc l1 _).trans hu2.2
  have hS : w2.drew.heap[w.heap.size]? = some (.cells #[.int .i64 k, .int .i64 f, .int .i64 t, .int .i64 v, .int .i64 b, .int .i64 q0, .int .i64 q1, .int .i64 q2, .int .i64 q3, .int .i64 v0, .int .i64 v1, .int .i64 v2, .int .i64 v3] 32 (0, 0)) := HK2.out.other _ _ _ _ HK1.out (by decide)
  clear hu2
  go_wp2
  refine wp_region_H (fun x => x.heap[w.heap.size]? = some (.cells #[.int .i64 k, .int .i64 f, .int .i64 t, .int .i64 v, .int .i64 b, .int .i64 q0, .int .i64 q1, .int .i64 q2, .int .i64 q3, .int .i64 v0, .int .i64 v1, .int .i64 v2, .int .i64 v3] 32 (0, 0))) (by kernel_rfl) ?_
  show wpAnyH Tryd.prog _ _ _ _ (7 + 1) (Array.replicate 8 false) _ _
  refine h_take (j := 0) (e' := some 18) (v := u2) rfl rfl (by kernel_rfl) (by kernel_rfl) (by kernel_rfl) (fun _ _ _ h => h) (Or.inl ⟨by rfl, ?_⟩) hS ?_
  · intro x hx
    go_simp
    try with_reducible rfl
  simp only [Act.put, List.setIfInBounds_toArray, List.set_cons_zero, List.set_cons_succ]
  refine h_take (j := 1) (e' := some 19) (v := .pointer (some ⟨w.heap.size, 5, none⟩)) rfl rfl (by kernel_rfl) (by kernel_rfl) (by kernel_rfl) (fun _ _ _ h => h) (Or.inl ⟨by rfl, ?_⟩) hS ?_
  · intro x hx
    go_simp
    try with_reducible rfl
  simp only [Act.put, List.setIfInBounds_toArray, List.set_cons_zero, List.set_cons_succ]
  refine h_take (j := 2) (e' := some 20) (v := .agg #[.int .i64 q0, .int .i64 q1, .int .i64 q2, .int .i64 q3]) rfl rfl (by kernel_rfl) (by kernel_rfl) (by kernel_rfl) (fun _ _ _ h => h) (Or.inl ⟨by rfl, ?_⟩) hS ?_
  · intro x hx
    have c5 := blk_cell hx 5 (.int .i64 q0) rfl
    have c6 := blk_cell hx 6 (.int .i64 q1) rfl
    have c7 := blk_cell hx 7 (.int .i64 q2) rfl
    have c8 := blk_cell hx 8 (.int .i64 q3) rfl
    go_simp
    try with_reducible rfl
  simp only [Act.put, List.setIfInBounds_toArray, List.set_cons_zero, List.set_cons_succ]
  refine h_take (j := 4) (e' := some 22) (v := .pointer (some ⟨w.heap.size, 9, none⟩)) rfl rfl (by kernel_rfl) (by kernel_rfl) (by kernel_rfl) (fun _ _ _ h => h) (Or.inl ⟨by rfl, ?_⟩) hS ?_
  · intro x hx
    go_simp
    try with_reducible rfl
  simp only [Act.put, List.setIfInBounds_toArray, List.set_cons_zero, List.set_cons_succ]
  refine h_take (j := 5) (e' := some 23) (v := .agg #[.int .i64 v0, .int .i64 v1, .int .i64 v2, .int .i64 v3]) rfl rfl (by kernel_rfl) (by kernel_rfl) (by kernel_rfl) (fun _ _ _ h => h) (Or.inl ⟨by rfl, ?_⟩) hS ?_
  · intro x hx
    have c9 := blk_cell hx 9 (.int .i64 v0) rfl
    have c10 := blk_cell hx 10 (.int .i64 v1) rfl
    have c11 := blk_cell hx 11 (.int .i64 v2) rfl
    have c12 := blk_cell hx 12 (.int .i64 v3) rfl
    go_simp
    try with_reducible rfl
  simp only [Act.put, List.setIfInBounds_toArray, List.set_cons_zero, List.set_cons_succ]
  have l2 : w.heap.size ≤ w2.drew.heap.size := Nat.le_trans l1 HK2.out.below.size
  refine h_call (c := 3) (e' := some 21) (fn := 15) (args := #[u2, .agg #[.int .i64 q0, .int .i64 q1, .int .i64 q2, .int .i64 q3]]) rfl rfl (by kernel_rfl) (by rfl) ?_ ((appendQc_i w.heap.size (numsL [k, f, t, v, b]) u2 q0 q1 q2 q3 w2.drew h5 h6 h7 h8 (by have := HZ.out.2.1; omega) l2 (own_kept HA2.out (Below.refl _ _).drew)).mono ?_)
  · go_simp
    try with_reducible rfl
  rintro e w3 ⟨u3, rfl, hu3⟩
  have HA3 : Hid (w3.ownsRow w.heap.size 5 1 u3 (numsL [k, f, t, v, b] ++ numsL [q0, q1, q2, q3]).length ((numsL [k, f, t, v, b] ++ numsL [q0, q1, q2, q3]).map (Value.int .u8))) := hu3.1
  have HK3 : Hid (Kp5 w.heap.size w2.drew w3) := hu3.2
  have l3 : w.heap.size ≤ w3.heap.size := Nat.le_trans l2 HK3.out.below.size
  have hS3 : w3.heap[w.heap.size]? = some (.cells #[.int .i64 k, .int .i64 f, .int .i64 t, .int .i64 v, .int .i64 b, .int .i64 q0, .int .i64 q1, .int .i64 q2, .int .i64 q3, .int .i64 v0, .int .i64 v1, .int .i64 v2, .int .i64 v3] 32 (0, 0)) := HK3.out.other _ _ _ _ hS (by decide)
  clear hu3
  refine ⟨u3, rfl, hS3, ?_⟩
  simp only [Act.put, List.setIfInBounds_toArray, List.set_cons_zero, List.set_cons_succ]
  refine h_call (c := 6) (e' := some 24) (fn := 14) (args := #[u3, .agg #[.int .i64 v0, .int .i64 v1, .int .i64 v2, .int .i64 v3]]) rfl rfl (by kernel_rfl) (by rfl) ?_ ((appendVote_i w.heap.size (numsL [k, f, t, v, b] ++ numsL [q0, q1, q2, q3]) u3 v0 v1 v2 v3 w3 h9 h10 h11 h12 (by rw [List.length_append]; have := HZ.out.2.1; have := HZ.out.2.2; omega) l3 HA3.out).mono ?_)
  · go_simp
    try with_reducible rfl
  rintro e w4 ⟨u4, rfl, hu4⟩
  have hcv := strOfNums_row hu4.1
  rw [HN.out] at hcv
  have HK4 : Hid (Kp5 w.heap.size w3 w4) := hu4.2
  have hS4 : w4.heap[w.heap.size]? = some (.cells #[.int .i64 k, .int .i64 f, .int .i64 t, .int .i64 v, .int .i64 b, .int .i64 q0, .int .i64 q1, .int .i64 q2, .int .i64 q3, .int .i64 v0, .int .i64 v1, .int .i64 v2, .int .i64 v3] 32 (0, 0)) := HK4.out.other _ _ _ _ hS3 (by decide)
  have HB4 : Hid (Below w.heap.size w w4) := HB1.out.trans (HK2.out.below.trans (((Below.refl _ _).drew).trans (HK3.out.below.trans HK4.out.below)))
  clear hu4
  refine ⟨u4, rfl, hS4, ?_⟩
  simp only [Act.put, List.setIfInBounds_toArray, List.set_cons_zero, List.set_cons_succ]
  refine h_take (j := 7) (e' := some 3) (v := u4) rfl rfl (by kernel_rfl) (by kernel_rfl) (by kernel_rfl) (fun _ _ _ h => h) (Or.inl ⟨by rfl, ?_⟩) hS4 ?_
  · intro x hx
    go_simp
    try with_reducible rfl
  simp only [Act.put, List.setIfInBounds_toArray, List.set_cons_zero, List.set_cons_succ]
  refine wpAnyH_done (by kernel_rfl) ?_ _
  have HT4 : Hid (Tabs w4) := ht.out.below HB4.out
  clear hS hS3 hS4 HA2 HA3 HK2 HK3 HK4 HK1
  go_wp2_with fail
  refine (sealed_yes_i _ w4 HZ.out.1 HT4).mono ?_
  rintro e w5 ⟨rfl, b5⟩
  have HB5 : Hid (Below w.heap.size w w5) := bt HB4.out b5
  clear b5 hcv
  go_wp2
  go_ret
  exact ⟨rfl, HB5.out⟩

end Go.Proofs.YtnghhfgbobpnkaoDoor
