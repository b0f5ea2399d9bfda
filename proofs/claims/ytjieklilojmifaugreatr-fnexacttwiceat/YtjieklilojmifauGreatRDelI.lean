/-
  One letter deleted from a row of the call's own, in place: the contract of slices.Delete over letters.
-/
import Derived.Test.YtjieklilojmifauGreatRClusC
import Derived.Test.YtjieklilojmifauGreatRRegH
import Derived.Test.YtjieklilojmifauGreatRAnsS
namespace Go.Proofs.YtjieklilojmifauGreatR
open Go.RowKit Num

/-- what is behind one of them moves to its place; the last place is cleared -/
theorem del_rows {A X B R Z : List Value} (hZ : Z.length = X.length) :
    (((A ++ X ++ B ++ R).take A.length ++ B ++ (A ++ X ++ B ++ R).drop (A.length + B.length)).take (A.length + B.length) ++ Z ++ ((A ++ X ++ B ++ R).take A.length ++ B ++ (A ++ X ++ B ++ R).drop (A.length + B.length)).drop (A.length + B.length + Z.length)).take (A.length + B.length) = A ++ B ∧
    (((A ++ X ++ B ++ R).take A.length ++ B ++ (A ++ X ++ B ++ R).drop (A.length + B.length)).take (A.length + B.length) ++ Z ++ ((A ++ X ++ B ++ R).take A.length ++ B ++ (A ++ X ++ B ++ R).drop (A.length + B.length)).drop (A.length + B.length + Z.length)).length = (A ++ X ++ B ++ R).length ∧
    ((A ++ X ++ B ++ R).take A.length ++ B ++ (A ++ X ++ B ++ R).drop (A.length + B.length)).length = (A ++ X ++ B ++ R).length := by
  have e1 : (A ++ X ++ B ++ R).take A.length = A := by simp
  rw [e1]
  have e2 : (A ++ B ++ (A ++ X ++ B ++ R).drop (A.length + B.length)).take (A.length + B.length) = A ++ B := by rw [← List.length_append, List.take_left]
  rw [e2]
  refine ⟨by rw [List.append_assoc, ← List.length_append, List.take_left], ?_, ?_⟩
  · simp only [List.length_append, List.length_drop]; omega
  · simp only [List.length_append, List.length_drop]; omega

theorem zero_one (A : Array Value) : (Builtin.zeroCells A 1).toList = A.toList := by
  simp only [Builtin.zeroCells]
  apply List.ext_getElem
  · simp
  · intro i h1 h2
    have h3 : i < A.size := by simpa using h2
    simp [Nat.mod_eq_of_lt h3, h3]
set_option maxRecDepth 100000 in
set_option maxHeartbeats 8000000 in
theorem delete_i (l : List LT) (g cap k n m lo : Nat) (w : World) (hl : l.length = n) (hnm : n = m + 1) (hk : k < n) (ho : w.ownsRow lo 65 13 (.slice (some ⟨g, 0, none⟩) n cap) n (flatR letF l)) :
    Calls Tryz.prog 103 #[.slice (some ⟨g, 0, none⟩) n cap, .int .i64 (k : Int), .int .i64 ((k : Int) + 1)] w fun e w' => e = .returned (.slice (some ⟨g, 0, none⟩) m cap) ∧ w'.ownsRow lo 65 13 (.slice (some ⟨g, 0, none⟩) m cap) m (flatR letF (l.take k ++ l.drop (k + 1))) ∧ w.grownBy w' (some g) := by
  obtain ⟨li, lhi, lhz0, lhz1, lhz2⟩ := info_parts infoLetter
  obtain ⟨hfl, ⟨hv, -⟩ | ⟨g2, cap2, cur, hv, hlo, hg, hnc, hcm, hcs, hct⟩⟩ := ho
  · cases hv
  injection hv with hv1 _ hv2
  injection hv1 with hv1
  injection hv1 with hv1
  subst hv1 hv2
  -- the row in four pieces
  obtain ⟨R, hR⟩ : ∃ R, R = cur.toList.drop (n * 13) := ⟨_, rfl⟩
  have hcur : cur.toList = flatR letF (l.take k) ++ letF l[k] ++ flatR letF (l.drop (k + 1)) ++ R := by
    have e1 : l = l.take k ++ [l[k]] ++ l.drop (k + 1) := by rw [← List.take_succ_eq_append_getElem (by omega), List.take_append_drop]
    have e2 : flatR letF l = flatR letF (l.take k) ++ letF l[k] ++ flatR letF (l.drop (k + 1)) := by
      have := congrArg (flatR letF) e1
      rw [flatR_append, flatR_append] at this
      simpa [flatR] using this
    rw [← e2, hR, ← hct, List.take_append_drop]
  obtain ⟨A, hA⟩ : ∃ A, A = flatR letF (l.take k) := ⟨_, rfl⟩
  obtain ⟨X, hX⟩ : ∃ X, X = letF l[k] := ⟨_, rfl⟩
  obtain ⟨B, hB⟩ : ∃ B, B = flatR letF (l.drop (k + 1)) := ⟨_, rfl⟩
  have lA : A.length = k * 13 := by rw [hA, flatR_len letF_len, List.length_take, Nat.min_eq_left (by omega)]
  have lX : X.length = 13 := by rw [hX]; exact letF_len _
  have lB : B.length = (n - (k + 1)) * 13 := by rw [hB, flatR_len letF_len, List.length_drop, hl]
  have oneB : ∀ u ∈ B, u.oneCell' = true := by
    intro u hu
    rw [hB] at hu
    obtain ⟨y, _, hy⟩ := List.mem_flatMap.1 hu
    exact letF_one y u hy
  rw [← hA, ← hX, ← hB] at hcur
  have HAB : Hid (flatR letF (l.take k ++ l.drop (k + 1)) = A ++ B) := (by rw [flatR_append, hA, hB] : flatR letF (l.take k ++ l.drop (k + 1)) = A ++ B)
  clear hA hX hB hR
  obtain ⟨Z, hZ⟩ : ∃ Z : List Value, Z = letF ((0, 0, 0, 0, 0), (0, 0, 0, 0), (0, 0, 0, 0)) := ⟨_, rfl⟩
  have lZ : Z.length = X.length := by rw [hZ, lX]; rfl
  obtain ⟨d1, d2, d3⟩ := del_rows (A := A) (X := X) (B := B) (R := R) (Z := Z) lZ
  rw [← hcur] at d1 d2 d3
  have hkm : A.length + B.length = m * 13 := by rw [lA, lB]; omega
  rw [hkm] at d1 d2 d3
  -- the two worlds
  obtain ⟨c1, hc1⟩ : ∃ c1 : Array Value, c1 = (cur.toList.take A.length ++ B ++ cur.toList.drop (m * 13)).toArray := ⟨_, rfl⟩
  obtain ⟨x1, hx1⟩ : ∃ x1, x1 = w.drew.setRow g c1 := ⟨_, rfl⟩
  have hgd : w.drew.heap[g]? = some (.cells cur 65 (0, 0)) := hg
  obtain ⟨g1, h1, z1⟩ := setRow_grown (cells := c1) hgd
  rw [← hx1] at g1 h1 z1
  have sc1 : c1.size = cur.size := by rw [hc1]; simpa using d3
  obtain ⟨c2, hc2⟩ : ∃ c2 : Array Value, c2 = (c1.toList.take (m * 13) ++ Z ++ c1.toList.drop (m * 13 + Z.length)).toArray := ⟨_, rfl⟩
  obtain ⟨x2, hx2⟩ : ∃ x2, x2 = x1.setRow g c2 := ⟨_, rfl⟩
  obtain ⟨g2, h2, z2⟩ := setRow_grown (cells := c2) h1
  rw [← hx2] at g2 h2 z2
  have hc1l : c1.toList = cur.toList.take A.length ++ B ++ cur.toList.drop (m * 13) := by rw [hc1]
  have sc2 : c2.size = cur.size := by rw [hc2, hc1l]; simpa using d2
  have HROW : Hid (x2.ownsRow lo 65 13 (.slice (some ⟨g, 0, none⟩) m cap) m (A ++ B)) := ⟨by rw [List.length_append, hkm], Or.inr ⟨g, cap, c2, rfl, hlo, h2, by omega, hcm, by rw [sc2, hcs], by rw [hc2, hc1l]; simpa using d1⟩⟩
  have hbl : B.length = (n - (k + 1)) * li.size := by rw [lB, lhz1]
  have hcz : cur.size = cap * 13 := hcs
  obtain ⟨o2, ho2⟩ : ∃ o2 : Nat, o2 = if cap = k + 1 then 0 else (k + 1) * 13 := ⟨_, rfl⟩
  have hnews : ∀ j u, B[j]? = some u → w.drew.cell? ((⟨g, o2, none⟩ : Addr).add j) = some u := by
    intro j u hu
    have hj := (List.getElem?_eq_some_iff.1 hu).1
    have hne : ¬ cap = k + 1 := by omega
    rw [ho2, if_neg hne, Addr.add_mid]
    show w.cell? _ = _
    rw [cell_of_row w g _ _ _ _ hg, ← Array.getElem?_toList, hcur, List.getElem?_append_left (by simp only [List.length_append]; omega), List.getElem?_append_right (by simp only [List.length_append]; omega)]
    rw [← hu]
    congr 1
    simp only [List.length_append]
    omega
  have hrun : ∀ ty, (Builtin.append_ #[33, 33] ty #[.slice (some ⟨g, 0, none⟩) k cap, .slice (some ⟨g, o2, none⟩) (n - (k + 1)) (cap - (k + 1))]).run Tryz.prog w.drew = .ok (.slice (some ⟨g, 0, none⟩) m cap) x1 := by
    intro ty
    have := run_append_room (P := Tryz.prog) w.drew 33 ty 65 li Tryz.underlying33 lhi g k cap cur hgd ⟨g, o2, none⟩ (n - (k + 1)) (cap - (k + 1)) B hbl hnews oneB (by omega) (by rw [lhz1, lB, hcz]; omega)
    rw [this, lhz1, show k + (n - (k + 1)) = m by omega, hx1, hc1, lA, show k * 13 + B.length = m * 13 by rw [← lA]; exact hkm]
  have hcl : ∀ ty, (Builtin.clear_ #[33] ty #[.slice (some ⟨g, m * 13, none⟩) 1 (cap - m)]).run Tryz.prog x1 = .ok (.tuple #[]) x2 := by
    intro ty
    have hst := run_storeCells_at Tryz.prog g (m * 13) 65 Z 0 c1 x1 h1 (by rw [sc1, hcz, lZ, lX]; omega) (by rw [hZ]; exact letF_one _)
    have hz3 : (Builtin.zeroCells (Value.agg (letA ((0, 0, 0, 0, 0), (0, 0, 0, 0), (0, 0, 0, 0)))).cells 1).toList = Z := by rw [hZ]; exact zero_one _
    have hzv := Tryz.zeroValue65
    simp only [Nat.add_zero] at hst
    rw [← hc2, ← hx2] at hst
    unfold letA at hz3
    simp [Builtin.clear_, run_underlying Tryz.underlying33, hzv, hz3, hst]
  have HG : Hid (w.grownBy x2 (some g)) := (show w.grownBy x2 (some g) from ⟨g2.os.trans g1.os, g2.tape.trans g1.tape, g2.output.trans g1.output, Nat.le_trans g1.size g2.size, fun i hi hne => (g2.block i (Nat.lt_of_lt_of_le hi g1.size) hne).trans (g1.block i hi hne)⟩)
  have q0 : (0 : Int) ≤ (k : Int) := by omega
  have q1 : (k : Int) ≤ (k : Int) + 1 := by omega
  have q2 : (k : Int) + 1 ≤ (n : Int) := by omega
  have q3 : (n : Int) ≤ (cap : Int) := by omega
  have q4 : (k : Int) ≤ (cap : Int) := by omega
  have q5 : (k : Int) + 1 ≤ (cap : Int) := by omega
  have q6 : (m : Int) ≤ (n : Int) := by omega
  have q7 : ¬ ((k : Int) = (k : Int) + 1) := by omega
  have q8 : ¬ cap = m := by omega
  have q9 : ¬ cap = 0 := by omega
  clear hgd hg hcur d1 d2 d3 hkm h1 h2 z1 z2 g1 g2 sc1 sc2 hc1 hc1l hc2 hnews hbl hcz hfl hct lA lB lX lZ oneB hZ hx1 hx2 hlo hcm hcs
  go_enter Tryz.func103, Tryz.ntmps103
  go_wp2_with fail
  refine wp_region_P (fun _ => true) (fun _ => True) (by kernel_rfl) ?_
  show wpAnyP Tryz.prog _ _ _ _ _ (7 + 1) (Array.replicate 8 false) _ _
  refine p_take (j := 0) (e' := some 20) (v := .slice (some ⟨g, 0, none⟩) n cap) rfl rfl (by kernel_rfl) (by kernel_rfl) (by kernel_rfl) (by kernel_rfl) (by kernel_rfl) (fun _ _ _ h => h) (Or.inl ⟨by rfl, ?_⟩) trivial ?_
  · intro x hx
    first | (go_simp; done) | (go_simp; with_reducible rfl) | (rw [ho2]; by_cases hcc : cap = k + 1; (rw [if_pos hcc]; go_simp; intro hneg; exact absurd hneg (by omega)); (rw [if_neg hcc]; go_simp; intro hneg; exact absurd hneg (by omega)))
  simp only [Act.put, List.setIfInBounds_toArray, List.set_cons_zero, List.set_cons_succ]
  refine p_take (j := 1) (e' := some 21) (v := .int .i64 (k : Int)) rfl rfl (by kernel_rfl) (by kernel_rfl) (by kernel_rfl) (by kernel_rfl) (by kernel_rfl) (fun _ _ _ h => h) (Or.inl ⟨by rfl, ?_⟩) trivial ?_
  · intro x hx
    first | (go_simp; done) | (go_simp; with_reducible rfl) | (rw [ho2]; by_cases hcc : cap = k + 1; (rw [if_pos hcc]; go_simp; intro hneg; exact absurd hneg (by omega)); (rw [if_neg hcc]; go_simp; intro hneg; exact absurd hneg (by omega)))
  simp only [Act.put, List.setIfInBounds_toArray, List.set_cons_zero, List.set_cons_succ]
  refine p_take (j := 2) (e' := some 22) (v := .slice (some ⟨g, 0, none⟩) k cap) rfl rfl (by kernel_rfl) (by kernel_rfl) (by kernel_rfl) (by kernel_rfl) (by kernel_rfl) (fun _ _ _ h => h) (Or.inl ⟨by rfl, ?_⟩) trivial ?_
  · intro x hx
    first | (go_simp; done) | (go_simp; with_reducible rfl) | (rw [ho2]; by_cases hcc : cap = k + 1; (rw [if_pos hcc]; go_simp; intro hneg; exact absurd hneg (by omega)); (rw [if_neg hcc]; go_simp; intro hneg; exact absurd hneg (by omega)))
  simp only [Act.put, List.setIfInBounds_toArray, List.set_cons_zero, List.set_cons_succ]
  refine p_take (j := 3) (e' := some 23) (v := .slice (some ⟨g, 0, none⟩) n cap) rfl rfl (by kernel_rfl) (by kernel_rfl) (by kernel_rfl) (by kernel_rfl) (by kernel_rfl) (fun _ _ _ h => h) (Or.inl ⟨by rfl, ?_⟩) trivial ?_
  · intro x hx
    first | (go_simp; done) | (go_simp; with_reducible rfl) | (rw [ho2]; by_cases hcc : cap = k + 1; (rw [if_pos hcc]; go_simp; intro hneg; exact absurd hneg (by omega)); (rw [if_neg hcc]; go_simp; intro hneg; exact absurd hneg (by omega)))
  simp only [Act.put, List.setIfInBounds_toArray, List.set_cons_zero, List.set_cons_succ]
  refine p_take (j := 4) (e' := some 24) (v := .int .i64 ((k : Int) + 1)) rfl rfl (by kernel_rfl) (by kernel_rfl) (by kernel_rfl) (by kernel_rfl) (by kernel_rfl) (fun _ _ _ h => h) (Or.inl ⟨by rfl, ?_⟩) trivial ?_
  · intro x hx
    first | (go_simp; done) | (go_simp; with_reducible rfl) | (rw [ho2]; by_cases hcc : cap = k + 1; (rw [if_pos hcc]; go_simp; intro hneg; exact absurd hneg (by omega)); (rw [if_neg hcc]; go_simp; intro hneg; exact absurd hneg (by omega)))
  simp only [Act.put, List.setIfInBounds_toArray, List.set_cons_zero, List.set_cons_succ]
  refine p_take (j := 5) (e' := some 25) (v := .slice (some ⟨g, o2, none⟩) (n - (k + 1)) (cap - (k + 1))) rfl rfl (by kernel_rfl) (by kernel_rfl) (by kernel_rfl) (by kernel_rfl) (by kernel_rfl) (fun _ _ _ h => h) (Or.inl ⟨by rfl, ?_⟩) trivial ?_
  · intro x hx
    first | (go_simp; done) | (go_simp; with_reducible rfl) | (rw [ho2]; by_cases hcc : cap = k + 1; (rw [if_pos hcc]; go_simp; intro hneg; exact absurd hneg (by omega)); (rw [if_neg hcc]; go_simp; intro hneg; exact absurd hneg (by omega)))
  simp only [Act.put, List.setIfInBounds_toArray, List.set_cons_zero, List.set_cons_succ]
  refine p_run (s := 6) (e' := some 26) rfl rfl rfl (by kernel_rfl) (.slice (some ⟨g, 0, none⟩) m cap) x1 ?_ ⟨fun _ => trivial, ?_⟩
  · simp [execOp, resolve, invoke, builtin, Act.eval, hrun, Result.andThen]
  simp only [Act.put, List.setIfInBounds_toArray, List.set_cons_zero, List.set_cons_succ]
  refine p_take (j := 7) (e' := some 0) (v := .slice (some ⟨g, 0, none⟩) m cap) rfl rfl (by kernel_rfl) (by kernel_rfl) (by kernel_rfl) (by kernel_rfl) (by kernel_rfl) (fun _ _ _ h => h) (Or.inl ⟨by rfl, ?_⟩) trivial ?_
  · intro x hx
    first | (go_simp; done) | (go_simp; with_reducible rfl) | (rw [ho2]; by_cases hcc : cap = k + 1; (rw [if_pos hcc]; go_simp; intro hneg; exact absurd hneg (by omega)); (rw [if_neg hcc]; go_simp; intro hneg; exact absurd hneg (by omega)))
  simp only [Act.put, List.setIfInBounds_toArray, List.set_cons_zero]
  refine wpAnyP_done (by kernel_rfl) ?_ _
  clear hrun ho2
  go_wp2_with fail
  go_ret
  exact ⟨rfl, by rw [HAB.out]; exact HROW.out, HG.out⟩

end Go.Proofs.YtjieklilojmifauGreatR
