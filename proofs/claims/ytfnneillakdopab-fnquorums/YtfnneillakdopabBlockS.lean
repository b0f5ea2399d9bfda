/-
  The contracts of the specification's FirstBlock and SameBlock.
-/
import Derived.Test.YtfnneillakdopabEqX
import Derived.BigQuiet
namespace Go.Proofs.Ytfnneillakdopab
open Go.RowKit Num

set_option maxRecDepth 100000 in
theorem first_s (w : World) : Calls Try.prog 86 #[] w fun e w' => e = .returned (blkV firstB (.slice none 0 0)) ∧ Below w.heap.size w w' := by
  go_enter Try.func86, Try.ntmps86
  go_wp2
  refine bodyPost_ret (v := blkV firstB (.slice none 0 0)) (by simp [results, Try.results86, go_sem, blkV, firstB]) rfl ⟨rfl, ?_⟩
  exact ba (Below.refl _ _) _

/-- as far as place k two rows of commands are the same -/
def sameTo (l l' : List CM) (k : Nat) : Prop := ∀ j (h : j < l.length) (h' : j < l'.length), j < k → l[j] = l'[j]
theorem sameTo_all {l l' : List CM} (hl : l.length = l'.length) (h : sameTo l l' l.length) : l = l' :=
  List.ext_getElem hl fun i h1 h2 => h i h1 h2 h1
theorem sameTo_next {l l' : List CM} {k : Nat} (h : sameTo l l' k) (hk : k < l.length) (hk' : k < l'.length) (e : l[k] = l'[k]) : sameTo l l' (k + 1) := fun j hj hj' hjk => by
  by_cases hh : j = k
  · subst hh; exact e
  · exact h j hj hj' (by omega)
theorem bk_ne1 {a b : BK} (h : a.1.1 ≠ b.1.1) : decide (a = b) = false := decide_eq_false fun e => h (by rw [e])
theorem bk_ne2 {a b : BK} (h : a.1.2 ≠ b.1.2) : decide (a = b) = false := decide_eq_false fun e => h (by rw [e])
theorem bk_ne3 {a b : BK} (h : a.2.2 ≠ b.2.2) : decide (a = b) = false := decide_eq_false fun e => h (by rw [e])
theorem bk_ne4 {a b : BK} (h : a.2.1.length ≠ b.2.1.length) : decide (a = b) = false := decide_eq_false fun e => h (by rw [e])
theorem bk_ne5 {a b : BK} {k : Nat} (hk : k < a.2.1.length) (hk' : k < b.2.1.length) (h : a.2.1[k] ≠ b.2.1[k]) : decide (a = b) = false := decide_eq_false fun e => h (by simp only [e])
theorem bk_eq {a b : BK} (h1 : a.1.1 = b.1.1) (h2 : a.1.2 = b.1.2) (h3 : a.2.2 = b.2.2) (h4 : a.2.1 = b.2.1) : decide (a = b) = true := decide_eq_true (Prod.ext (Prod.ext h1 h2) (Prod.ext h4 h3))

/-- the seven cells of a boxed block -/
theorem blk_cells {w : World} {n : Nat} {b : BK} {cv : Value} {t : TypeId} (h : w.heap[n]? = some (.cells (blkA b cv) t (0, 0))) :
    w.cell? ⟨n, 0, none⟩ = some (.int .i64 b.1.1) ∧ w.cell? ⟨n, 1, none⟩ = some (.int .i64 b.1.2) ∧ w.cell? ⟨n, 2, none⟩ = some cv ∧ w.cell? ⟨n, 3, none⟩ = some (.int .i64 b.2.2.1) ∧ w.cell? ⟨n, 4, none⟩ = some (.int .i64 b.2.2.2.1) ∧ w.cell? ⟨n, 5, none⟩ = some (.int .i64 b.2.2.2.2.1) ∧ w.cell? ⟨n, 6, none⟩ = some (.int .i64 b.2.2.2.2.2) := by
  refine ⟨?_, ?_, ?_, ?_, ?_, ?_, ?_⟩ <;> rw [cell_of_row w n _ _ _ (0, 0) h] <;> rfl

set_option maxRecDepth 100000 in
set_option maxHeartbeats 4000000 in
theorem same_s (a b : BK) (ca cb : Value) (w : World) (ha : RowsR w ca 3 cmdF a.2.1) (hb : RowsR w cb 3 cmdF b.2.1) (hla : (a.2.1.length : Int) ≤ 1048576) (hlb : (b.2.1.length : Int) ≤ 1048576) :
    Calls Try.prog 92 #[blkV a ca, blkV b cb] w fun e w' => e = .returned (.bool (decide (a = b))) ∧ Below w.heap.size w w' := by
  obtain ⟨aa, na, rfl, hra⟩ := ha
  obtain ⟨ab, nb, rfl, hrb⟩ := hb
  have HA : Hid (0 < a.2.1.length → _) := hra
  have HB : Hid (0 < b.2.1.length → _) := hrb
  have E1 := eqQ a.2.2 b.2.2
  have E2 := guardQ
  clear hra hrb
  unfold blkV
  by_cases h1 : a.1.1 = b.1.1
  · have h1' : (a.1.1 != b.1.1) = false := by simp [h1]
    by_cases h2 : a.1.2 = b.1.2
    · have h2' : (a.1.2 != b.1.2) = false := by simp [h2]
      by_cases h3 : a.2.2 = b.2.2
      · have h3' : decide (a.2.2 = b.2.2) = true := decide_eq_true h3
        rw [h3'] at E1
        by_cases h4 : a.2.1.length = b.2.1.length
        · have h4' : ((a.2.1.length : Int) != (b.2.1.length : Int)) = false := by simp [h4]
          have HE : Hid (a.1.1 = b.1.1 ∧ a.1.2 = b.1.2 ∧ a.2.2 = b.2.2 ∧ a.2.1.length = b.2.1.length) := ⟨h1, h2, h3, h4⟩
          clear h1 h2 h3 h4 h3'
          go_enter Try.func92, Try.ntmps92
          go_wp2
          obtain ⟨W1, hW1⟩ : ∃ W1, W1 = (w.alloc (.cells (blkA a (.slice aa a.2.1.length na)) 33)).alloc (.cells (blkA b (.slice ab b.2.1.length nb)) 33) := ⟨_, rfl⟩
          have HW : Hid (W1.heap[w.heap.size]? = some (.cells (blkA a (.slice aa a.2.1.length na)) 33 (0, 0)) ∧ W1.heap[w.heap.size + 1]? = some (.cells (blkA b (.slice ab b.2.1.length nb)) 33 (0, 0)) ∧ Below w.heap.size w W1) := (by
            rw [hW1]
            refine ⟨box_cells (ba (Below.refl _ _) _), ?_, ba (ba (Below.refl _ _) _) _⟩
            have := heap_alloc_new (w.alloc (.cells (blkA a (.slice aa a.2.1.length na)) 33)) (.cells (blkA b (.slice ab b.2.1.length nb)) 33)
            rw [show (w.alloc (.cells (blkA a (.slice aa a.2.1.length na)) 33)).heap.size = w.heap.size + 1 by simp] at this
            exact this : W1.heap[w.heap.size]? = some (.cells (blkA a (.slice aa a.2.1.length na)) 33 (0, 0)) ∧ W1.heap[w.heap.size + 1]? = some (.cells (blkA b (.slice ab b.2.1.length nb)) 33 (0, 0)) ∧ Below w.heap.size w W1)
          rw [← hW1]
          clear hW1 E1 E2 h1' h2' h4'
          go_loopw [5] (fun i wr => ∃ k : Nat, k ≤ a.2.1.length ∧ i = .int .i64 (k : Int) ∧ Hid (sameTo a.2.1 b.2.1 k) ∧ Below W1.heap.size W1 wr) (fun i _ => a.2.1.length - (intOf i).toNat)
          case atStart => exact ⟨0, Nat.zero_le _, rfl, fun j _ _ h => by omega, Below.refl _ _⟩
          case round =>
            obtain ⟨k, hk, rfl, HS, hbel⟩ := hrel
            have l0 : w.heap.size < W1.heap.size := (Array.getElem?_eq_some_iff.1 HW.out.1).1
            have l1 : w.heap.size + 1 < W1.heap.size := (Array.getElem?_eq_some_iff.1 HW.out.2.1).1
            have x0 : ∀ x : Bw wr, x.to.cell? ⟨w.heap.size, 2, none⟩ = some (.slice aa a.2.1.length na) := fun x => (blk_cells (((bt hbel x.below).block _ l0).trans HW.out.1)).2.2.1
            have x1 : ∀ x : Bw wr, x.to.cell? ⟨w.heap.size + 1, 2, none⟩ = some (.slice ab b.2.1.length nb) := fun x => (blk_cells (((bt hbel x.below).block _ l1).trans HW.out.2.1)).2.2.1
            have y0 : wr.cell? ⟨w.heap.size, 2, none⟩ = some (.slice aa a.2.1.length na) := x0 ⟨wr, Below.refl _ _⟩
            by_cases hlt : (k : Int) < a.2.1.length
            · have hkn : k < a.2.1.length := by omega
              have hkb : k < b.2.1.length := by rw [← HE.out.2.2.2]; exact hkn
              have q0 : (0 : Int) ≤ (k : Int) := by omega
              have q1 : (k : Int) < b.2.1.length := by omega
              obtain ⟨ga, oa, rfl, hga, hca⟩ := HA.out (by omega)
              obtain ⟨gb, ob, rfl, hgb, hcb⟩ := HB.out (by omega)
              have hne := bw_some wr
              have BB : ∀ x : Bw wr, Below w.heap.size w x.to := fun x => bt HW.out.2.2 (bt hbel x.below)
              have c0 : ∀ x : Bw wr, x.to.cell? ⟨ga, oa + k * 3, none⟩ = some (.int .i64 a.2.1[k].1) := fun x => by rw [(BB x).cell (by exact hga)]; exact hca k hkn 0 (by omega)
              have c1 : ∀ x : Bw wr, x.to.cell? ⟨ga, oa + k * 3 + 1, none⟩ = some (.string a.2.1[k].2.1) := fun x => by rw [(BB x).cell (by exact hga)]; exact hca k hkn 1 (by omega)
              have c2 : ∀ x : Bw wr, x.to.cell? ⟨ga, oa + k * 3 + 2, none⟩ = some (.int .i64 a.2.1[k].2.2) := fun x => by rw [(BB x).cell (by exact hga)]; exact hca k hkn 2 (by omega)
              have d0 : ∀ x : Bw wr, x.to.cell? ⟨gb, ob + k * 3, none⟩ = some (.int .i64 b.2.1[k].1) := fun x => by rw [(BB x).cell (by exact hgb)]; exact hcb k hkb 0 (by omega)
              have d1 : ∀ x : Bw wr, x.to.cell? ⟨gb, ob + k * 3 + 1, none⟩ = some (.string b.2.1[k].2.1) := fun x => by rw [(BB x).cell (by exact hgb)]; exact hcb k hkb 1 (by omega)
              have d2 : ∀ x : Bw wr, x.to.cell? ⟨gb, ob + k * 3 + 2, none⟩ = some (.int .i64 b.2.1[k].2.2) := fun x => by rw [(BB x).cell (by exact hgb)]; exact hcb k hkb 2 (by omega)
              have E3 := eqM a.2.1[k] b.2.1[k]
              have E4 := guardM
              clear hca hcb BB
              by_cases he : a.2.1[k] = b.2.1[k]
              · rw [decide_eq_true he] at E3
                have HT : Hid (sameTo a.2.1 b.2.1 (k + 1)) := sameTo_next HS.out hkn hkb he
                clear he
                go_wp2
                refine wp_region_bw (by kernel_rfl) (by kernel_rfl) ?_
                repeat (go_big_quiet_step (fail))
                refine wpQuiet_nil ?_
                intro _ hw'
                obtain ⟨x, rfl⟩ := hw'
                go_wp2
                go_roundw
                case rel => exact ⟨k + 1, by omega, by go_num, HT, bt hbel x.below⟩
                case measure => simp [intOf]; omega
              · rw [decide_eq_false he] at E3
                have HT : Hid (decide (a = b) = false) := bk_ne5 hkn hkb he
                clear he
                go_wp2
                refine wp_region_bw (by kernel_rfl) (by kernel_rfl) ?_
                repeat (go_big_quiet_step (fail))
                refine wpQuiet_nil ?_
                intro _ hw'
                obtain ⟨x, rfl⟩ := hw'
                go_wp2
                go_ret
                exact ⟨ret_bool HT.out.symm, bt HW.out.2.2 (bt hbel x.below)⟩
            · have hkl : k = a.2.1.length := by omega
              have HT : Hid (decide (a = b) = true) := bk_eq HE.out.1 HE.out.2.1 HE.out.2.2.1 (sameTo_all HE.out.2.2.2 (by have := HS.out; rw [hkl] at this; exact this))
              clear hkl
              go_wp2
              go_ret
              exact ⟨ret_bool HT.out.symm, bt HW.out.2.2 hbel⟩
        · have h4' : ((a.2.1.length : Int) != (b.2.1.length : Int)) = true := by simpa using fun e : (a.2.1.length : Int) = b.2.1.length => h4 (by omega)
          rw [bk_ne4 h4]
          clear h4
          go_enter Try.func92, Try.ntmps92
          go_wp2
          go_ret
          exact ⟨rfl, ba (ba (Below.refl _ _) _) _⟩
      · rw [decide_eq_false h3] at E1
        rw [bk_ne3 h3]
        clear h3
        go_enter Try.func92, Try.ntmps92
        go_wp2
        go_ret
        exact ⟨rfl, ba (ba (Below.refl _ _) _) _⟩
    · have h2' : (a.1.2 != b.1.2) = true := by simpa using h2
      rw [bk_ne2 h2]
      clear h2
      go_enter Try.func92, Try.ntmps92
      go_wp2
      go_ret
      exact ⟨rfl, ba (ba (Below.refl _ _) _) _⟩
  · have h1' : (a.1.1 != b.1.1) = true := by simpa using h1
    rw [bk_ne1 h1]
    clear h1
    go_enter Try.func92, Try.ntmps92
    go_wp2
    go_ret
    exact ⟨rfl, ba (ba (Below.refl _ _) _) _⟩

end Go.Proofs.Ytfnneillakdopab
