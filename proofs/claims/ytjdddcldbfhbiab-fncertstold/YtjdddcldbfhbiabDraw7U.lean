/-
  What the law FnCertsTold draws: DrawHigherQc, DrawProven. (Made by gt7b.py.)
-/
import Derived.Test.YtjdddcldbfhbiabDraw7T
namespace Go.Proofs.Ytjdddcldbfhbiab
open Go.RowKit Num

/-- four cells of a block -/
def Four (N : Nat) (a b c d : Value) (x : World) : Prop := x.cell? ⟨N, 0, none⟩ = some a ∧ x.cell? ⟨N, 1, none⟩ = some b ∧ x.cell? ⟨N, 2, none⟩ = some c ∧ x.cell? ⟨N, 3, none⟩ = some d
theorem Four.of {N : Nat} {a b c d : Value} {x : World} {t : TypeId} (h : x.heap[N]? = some (.cells #[a, b, c, d] t (0, 0))) : Four N a b c d x := vote_cells h

set_option maxRecDepth 100000 in
set_option maxHeartbeats 4000000 in
theorem dDrawHigherQc_any {w : World} {ao : Option Addr} {len cap b off : Nat} (hc : Code w ao len b off) :
    Calls Try.prog 40 #[.slice ao len cap] w fun e w' => HigherR w e w' := by
  have HC : Hid (Code w ao len b off) := hc
  clear hc
  obtain ⟨W0, hW0⟩ : ∃ W0, W0 = (w.alloc (.cells #[.int .i64 0, .int .i64 0, .int .i64 0, .int .i64 0] 31)).alloc (.cells #[.int .i64 0, .int .i64 0, .int .i64 0, .int .i64 0] 31) := ⟨_, rfl⟩
  have HB0 : Hid (Below w.heap.size w W0) := (by rw [hW0]; exact ba (ba (Below.refl _ _) _) _ : Below w.heap.size w W0)
  have HE0 : Hid (W0.heap[w.heap.size]? = some (.cells #[.int .i64 0, .int .i64 0, .int .i64 0, .int .i64 0] 31 (0, 0))) := (by rw [hW0]; exact (((Below.refl _ _).alloc (Nat.le_refl _) _).block _ (by simp)).trans (heap_alloc_new w _) : W0.heap[w.heap.size]? = _)
  have HF0 : Hid (W0.heap[w.heap.size + 1]? = some (.cells #[.int .i64 0, .int .i64 0, .int .i64 0, .int .i64 0] 31 (0, 0))) := (by rw [hW0]; have := heap_alloc_new (w.alloc (.cells #[.int .i64 0, .int .i64 0, .int .i64 0, .int .i64 0] 31)) (.cells #[.int .i64 0, .int .i64 0, .int .i64 0, .int .i64 0] 31); simpa using this : W0.heap[w.heap.size + 1]? = _)
  have l0 : w.heap.size + 1 < W0.heap.size := (Array.getElem?_eq_some_iff.1 HF0.out).1
  go_enter Try.func40, Try.ntmps40
  go_wp2_with fail
  rw [← hW0]
  clear hW0
  refine (new_any (HC.out.below HB0.out)).mono ?_
  rintro e w1 ⟨B, rfl, hN, hS, hb⟩
  have HS1 : Hid (St w1 B ao len cap b off) := hS
  have hB1 := hS.cur.lt
  have HB1 : Hid (Below W0.heap.size W0 w1) := hb
  clear hS hb
  go_wp2_with fail
  refine (drawn_st HS1.out).mono ?_
  rintro e w3 ⟨vt, qs, rfl, hd, hown, hS, hg⟩
  have HS3 : Hid (St w3 B ao len cap b off) := hS
  have HG3 : Hid (w1.grownBy w3 (Option.some B)) := hg
  have HBT : Hid (BT (bks qs) 9) := hd.bt
  have HO3 : Hid (OwnU w3 w1.heap.size vt qs) := hown.u
  clear hS hg hd hown
  go_wp2_with fail
  refine (qc7_st HS3.out HO3.out hB1 HBT.out (by omega)).mono ?_
  rintro e w4 ⟨⟨x0, x1, x2, x3⟩, rfl, hwf, hS, hg⟩
  unfold qcVal
  simp only
  have HWX : Hid (wfQ (x0, x1, x2, x3)) := hwf
  obtain ⟨W5, hW5⟩ : ∃ W5, W5 = w4.alloc (.cells #[.int .i64 x0, .int .i64 x1, .int .i64 x2, .int .i64 x3] 31) := ⟨_, rfl⟩
  have hb5 : Below w4.heap.size w4 W5 := by rw [hW5]; exact (Below.refl _ _).alloc (Nat.le_refl _) _
  have HK5 : Hid (W5.heap[w4.heap.size]? = some (.cells #[.int .i64 x0, .int .i64 x1, .int .i64 x2, .int .i64 x3] 31 (0, 0))) := (by rw [hW5]; exact heap_alloc_new w4 _ : W5.heap[w4.heap.size]? = _)
  have HS5 : Hid (St W5 B ao len cap b off) := hS.below hb5
  have HG5 : Hid (w1.grownBy W5 (Option.some B)) := grown_tr (grown_tr HG3.out hg) (grown_none hb5)
  have HO5 : Hid (OwnU W5 w1.heap.size vt qs) := HO3.out.st (grown_tr hg (grown_none hb5)) hB1
  have l5 : w4.heap.size < W5.heap.size := (Array.getElem?_eq_some_iff.1 HK5.out).1
  have hs4 := (grown_tr HG3.out hg).size
  have hs1 := HB1.out.size
  obtain ⟨X, hX⟩ : ∃ X, X = w4.heap.size := ⟨_, rfl⟩
  rw [← hX] at HK5 l5
  have hX1 : w1.heap.size ≤ X := by omega
  clear hS hg hwf hb5
  go_wp2
  rw [← hW5, ← hX]
  clear hW5 hX
  refine wp_region_H (Four X (.int .i64 x0) (.int .i64 x1) (.int .i64 x2) (.int .i64 x3)) (by kernel_rfl) ?_
  show wpAnyH Try.prog _ _ _ _ (5 + 1) (Array.replicate 6 false) _ _
  have hS0 : Four X (.int .i64 x0) (.int .i64 x1) (.int .i64 x2) (.int .i64 x3) W5.drew := Four.of (t := 31) HK5.out
  refine h_take (j := 0) (e' := some 14) (v := .agg #[.int .i64 x0, .int .i64 x1, .int .i64 x2, .int .i64 x3]) rfl rfl (by kernel_rfl) (by kernel_rfl) (by kernel_rfl) (fun _ _ _ h => h) (Or.inl ⟨by rfl, ?_⟩) hS0 ?_
  · intro x hx
    obtain ⟨c0, c1, c2, c3⟩ := hx
    go_simp
    try with_reducible rfl
  simp only [Act.put, List.setIfInBounds_toArray, List.set_cons_zero, List.set_cons_succ]
  refine h_take (j := 1) (e' := some 15) (v := .pointer (some ⟨B, 0, none⟩)) rfl rfl (by kernel_rfl) (by kernel_rfl) (by kernel_rfl) (fun _ _ _ h => h) (Or.inl ⟨by rfl, ?_⟩) hS0 ?_
  · intro x hx
    go_simp
    try with_reducible rfl
  simp only [Act.put, List.setIfInBounds_toArray, List.set_cons_zero, List.set_cons_succ]
  refine h_take (j := 2) (e' := some 16) (v := vt) rfl rfl (by kernel_rfl) (by kernel_rfl) (by kernel_rfl) (fun _ _ _ h => h) (Or.inl ⟨by rfl, ?_⟩) hS0 ?_
  · intro x hx
    go_simp
    try with_reducible rfl
  simp only [Act.put, List.setIfInBounds_toArray, List.set_cons_zero, List.set_cons_succ]
  refine h_call (c := 3) (e' := some 17) (fn := 71) (args := #[.pointer (some ⟨B, 0, none⟩), vt]) rfl rfl (by kernel_rfl) (by rfl) ?_ ((qc7_st (w := W5.drew) (HS5.out.below (Below.refl _ _).drew) (HO5.out.st (grown_none (Below.refl _ _).drew) hB1) hB1 HBT.out (by omega)).mono ?_)
  · go_simp
    try with_reducible rfl
  rintro e w6 ⟨⟨y0, y1, y2, y3⟩, rfl, hwf, hS, hg⟩
  have HWY : Hid (wfQ (y0, y1, y2, y3)) := hwf
  have hg' : W5.grownBy w6 (Option.some B) := grown_tr (grown_none (Below.refl _ _).drew) hg
  have HK6 : Hid (w6.heap[X]? = some (.cells #[.int .i64 x0, .int .i64 x1, .int .i64 x2, .int .i64 x3] 31 (0, 0))) := (hg'.block _ l5 (fun e => by have := Option.some.inj e; omega)).trans HK5.out
  have HB6 : Hid (Below W0.heap.size W0 w6) := drawn_below HB1.out hN (grown_tr HG5.out hg')
  have HE6 : Hid (w6.heap[w.heap.size]? = some (.cells #[.int .i64 0, .int .i64 0, .int .i64 0, .int .i64 0] 31 (0, 0))) := (HB6.out.block _ (by omega)).trans HE0.out
  have HF6 : Hid (w6.heap[w.heap.size + 1]? = some (.cells #[.int .i64 0, .int .i64 0, .int .i64 0, .int .i64 0] 31 (0, 0))) := (HB6.out.block _ l0).trans HF0.out
  have l6 : X < w6.heap.size := (Array.getElem?_eq_some_iff.1 HK6.out).1
  clear hS hg hg' hwf hS0
  refine ⟨_, rfl, Four.of HK6.out, ?_⟩
  unfold qcVal
  simp only [Act.put, List.setIfInBounds_toArray, List.set_cons_zero, List.set_cons_succ]
  refine h_store (s := 4) (N := w.heap.size) (cells := #[.int .i64 x0, .int .i64 x1, .int .i64 x2, .int .i64 x3]) rfl rfl rfl rfl (by kernel_rfl) rfl rfl HE6.out (by kernel_rfl) rfl (voteOne _ _ _ _) ?_
  intro w7 hg7 hk7
  have HK7 : Hid (w7.heap[X]? = some (.cells #[.int .i64 x0, .int .i64 x1, .int .i64 x2, .int .i64 x3] 31 (0, 0))) := (hg7.block _ l6 (fun e => by have := Option.some.inj e; omega)).trans HK6.out
  have HF7 : Hid (w7.heap[w.heap.size + 1]? = some (.cells #[.int .i64 0, .int .i64 0, .int .i64 0, .int .i64 0] 31 (0, 0))) := (hg7.block _ (by have := HB6.out.size; omega) (fun e => by have := Option.some.inj e; omega)).trans HF6.out
  have l7 : X < w7.heap.size := (Array.getElem?_eq_some_iff.1 HK7.out).1
  have HE7 : Hid (w7.heap[w.heap.size]? = some (.cells #[.int .i64 x0, .int .i64 x1, .int .i64 x2, .int .i64 x3] 31 (0, 0))) := hk7
  have hbe : Below w.heap.size w w6 := bt HB0.out HB6.out
  have HB7 : Hid (Below w.heap.size w w7) := hbe.grown hg7 hbe.size (fun y hy => by cases hy; exact Nat.le_refl _)
  clear hg7 hk7 hbe
  refine ⟨Four.of HK7.out, ?_⟩
  refine h_store (s := 5) (N := w.heap.size + 1) (cells := #[.int .i64 y0, .int .i64 y1, .int .i64 y2, .int .i64 y3]) rfl rfl rfl rfl (by kernel_rfl) rfl rfl HF7.out (by kernel_rfl) rfl (voteOne _ _ _ _) ?_
  intro w8 hg8 hk8
  have HK8 : Hid (w8.heap[X]? = some (.cells #[.int .i64 x0, .int .i64 x1, .int .i64 x2, .int .i64 x3] 31 (0, 0))) := (hg8.block _ l7 (fun e => by have := Option.some.inj e; omega)).trans HK7.out
  obtain ⟨m0, m1, m2, m3⟩ := vote_cells hk8
  obtain ⟨n0, n1, n2, n3⟩ := vote_cells ((hg8.block _ (by omega) (fun e => by have := Option.some.inj e; omega)).trans HE7.out)
  have HB8 : Hid (Below w.heap.size w w8) := HB7.out.grown hg8 HB7.out.size (fun y hy => by cases hy; exact Nat.le_succ _)
  clear hg8 hk8
  refine ⟨Four.of HK8.out, wpAnyH_done (by kernel_rfl) ?_ _⟩
  go_wp2
  refine bodyPost_ret (v := .tuple #[.agg #[.int .i64 x0, .int .i64 x1, .int .i64 x2, .int .i64 x3], .agg #[.int .i64 y0, .int .i64 y1, .int .i64 y2, .int .i64 y3]]) (by simp [results, Try.results40, go_sem, m0, m1, m2, m3, n0, n1, n2, n3]) rfl ?_
  unfold HigherR
  exact ⟨(x0, x1, x2, x3), (y0, y1, y2, y3), rfl, HWX.out, HWY.out, HB8.out⟩

set_option maxRecDepth 100000 in
set_option maxHeartbeats 4000000 in
theorem dDrawProven_any {w : World} {ao : Option Addr} {len cap b off : Nat} (hc : Code w ao len b off) :
    Calls Try.prog 41 #[.slice ao len cap] w fun e w' => ProvenR w e w' := by
  have HC : Hid (Code w ao len b off) := hc
  clear hc
  obtain ⟨W0, hW0⟩ : ∃ W0, W0 = w.alloc (.cells #[.int .i64 0, .int .i64 0, .int .i64 0, .int .i64 0] 31) := ⟨_, rfl⟩
  have HB0 : Hid (Below w.heap.size w W0) := (by rw [hW0]; exact (Below.refl _ _).alloc (Nat.le_refl _) _ : Below w.heap.size w W0)
  have HE0 : Hid (W0.heap[w.heap.size]? = some (.cells #[.int .i64 0, .int .i64 0, .int .i64 0, .int .i64 0] 31 (0, 0))) := (by rw [hW0]; exact heap_alloc_new w _ : W0.heap[w.heap.size]? = _)
  have l0 : w.heap.size < W0.heap.size := (Array.getElem?_eq_some_iff.1 HE0.out).1
  go_enter Try.func41, Try.ntmps41
  go_wp2_with fail
  rw [← hW0]
  clear hW0
  refine (new_any (HC.out.below HB0.out)).mono ?_
  rintro e w1 ⟨B, rfl, hN, hS, hb⟩
  have HS1 : Hid (St w1 B ao len cap b off) := hS
  have hB1 := hS.cur.lt
  have HB1 : Hid (Below W0.heap.size W0 w1) := hb
  have hs1 := hb.size
  clear hS hb
  have HBp : Hid (Below w1.heap.size w1 (w1.alloc (.cells #[.int .i64 0, .int .i64 1, .int .i64 2, .int .i64 8, .int .i64 15] 3))) := (Below.refl _ _).alloc (Nat.le_refl _) _
  have HKp : Hid ((w1.alloc (.cells #[.int .i64 0, .int .i64 1, .int .i64 2, .int .i64 8, .int .i64 15] 3)).heap[w1.heap.size]? = some (.cells (intsA [0, 1, 2, 8, 15]) 3 (0, 0))) := heap_alloc_new w1 _
  go_wp2_with fail
  refine (pickL_st [0, 1, 2, 8, 15] (by simp) (by simp) (HS1.out.below HBp.out) (by omega) HKp.out).mono ?_
  rintro e w2 ⟨pn, hpn, rfl, hS, hg⟩
  have HS2 : Hid (St w2 B ao len cap b off) := hS
  have HG2 : Hid (w1.grownBy w2 (Option.some B)) := grown_tr (grown_none HBp.out) hg
  have HP : Hid (pn ∈ ([0, 1, 2, 8, 15] : List Int)) := hpn
  clear hS hg HBp HKp hpn
  have hs2 := HG2.out.size
  go_wp2_with fail
  refine (drawn_st HS2.out).mono ?_
  rintro e w3 ⟨vt, qs, rfl, hd, hown, hS, hg⟩
  have HS3 : Hid (St w3 B ao len cap b off) := hS
  have HG3 : Hid (w1.grownBy w3 (Option.some B)) := grown_tr HG2.out hg
  have HBT : Hid (BT (bks qs) 9) := hd.bt
  have HO3 : Hid (OwnU w3 w2.heap.size vt qs) := hown.u
  clear hS hg hd hown
  go_wp2_with fail
  refine (votes7_st HS3.out HO3.out (by omega) HBT.out (by omega)).mono ?_
  rintro e w4 ⟨vl, l, rfl, hl8, hvd, hown, hS, hg⟩
  have HS4 : Hid (St w4 B ao len cap b off) := hS
  have HG4 : Hid (w1.grownBy w4 (Option.some B)) := grown_tr HG3.out hg
  have HOV : Hid (w4.ownsRow w3.heap.size 54 4 vl l.length (flatR voteF l)) := hown
  have HVD : Hid (∀ x ∈ l, VD (bks qs) x) := hvd
  have HO4 : Hid (OwnU w4 w2.heap.size vt qs) := HO3.out.st hg (by omega)
  have hs3 := HG3.out.size
  have hs4 := HG4.out.size
  have hq9 := HBT.out.2.1
  obtain ⟨al, cl, h4, hfz⟩ := own_form hown
  subst h4
  clear hS hg hvd hown
  go_wp2_with fail
  refine (qc7_st HS4.out HO4.out (by omega) HBT.out (by omega)).mono ?_
  rintro e w5 ⟨⟨y0, y1, y2, y3⟩, rfl, hwf, hS, hg⟩
  unfold qcVal
  simp only
  have HWY : Hid (wfQ (y0, y1, y2, y3)) := hwf
  obtain ⟨W6, hW6⟩ : ∃ W6, W6 = w5.alloc (.cells #[.int .i64 y0, .int .i64 y1, .int .i64 y2, .int .i64 y3] 31) := ⟨_, rfl⟩
  have hb6 : Below w5.heap.size w5 W6 := by rw [hW6]; exact (Below.refl _ _).alloc (Nat.le_refl _) _
  have HK6 : Hid (W6.heap[w5.heap.size]? = some (.cells #[.int .i64 y0, .int .i64 y1, .int .i64 y2, .int .i64 y3] 31 (0, 0))) := (by rw [hW6]; exact heap_alloc_new w5 _ : W6.heap[w5.heap.size]? = _)
  have HS6 : Hid (St W6 B ao len cap b off) := hS.below hb6
  have HG6 : Hid (w1.grownBy W6 (Option.some B)) := grown_tr (grown_tr HG4.out hg) (grown_none hb6)
  have HOV6 : Hid (W6.ownsRow w3.heap.size 54 4 (.slice al l.length cl) l.length (flatR voteF l)) := own_kept (World.ownsRow.kept HOV.out hg (own_far HOV.out (by omega))) hb6
  have l6 : w5.heap.size < W6.heap.size := (Array.getElem?_eq_some_iff.1 HK6.out).1
  have hs5 := (grown_tr HG4.out hg).size
  have HFV : Hid (0 < l.length → ∃ g, al = some ⟨g, 0, none⟩) := hfz
  obtain ⟨X, hX⟩ : ∃ X, X = w5.heap.size := ⟨_, rfl⟩
  have HX4 : Hid (w4.heap.size ≤ X) := (by have := hg.size; omega : w4.heap.size ≤ X)
  rw [← hX] at HK6 l6
  have hX1 : w1.heap.size ≤ X := by omega
  clear hS hg hwf hb6 hfz
  by_cases hz : l.length = 0
  · have e0 : decide ((0 : Int) < (l.length : Int)) = false := decide_eq_false (by omega)
    have e0n : decide (0 < l.length) = false := decide_eq_false (by omega)
    clear hz
    have HKX : Hid (W6.heap[X]? = some (.cells #[.int .i64 y0, .int .i64 y1, .int .i64 y2, .int .i64 y3] 31 (0, 0))) := HK6.out
    have HBX : Hid (Below W0.heap.size W0 W6) := drawn_below HB1.out hN HG6.out
    have HEX : Hid (W6.heap[w.heap.size]? = some (.cells #[.int .i64 0, .int .i64 0, .int .i64 0, .int .i64 0] 31 (0, 0))) := (HBX.out.block _ l0).trans HE0.out
    go_wp2
    rw [← hW6, ← hX]
    clear hW6 hX
    refine wp_region_H (Four X (.int .i64 y0) (.int .i64 y1) (.int .i64 y2) (.int .i64 y3)) (by kernel_rfl) ?_
    show wpAnyH Try.prog _ _ _ _ (5 + 1) (Array.replicate 6 false) _ _
    have hS9 : Four X (.int .i64 y0) (.int .i64 y1) (.int .i64 y2) (.int .i64 y3) W6.drew := Four.of (t := 31) HKX.out
    refine h_take (j := 0) (e' := some 49) (v := (.slice al l.length cl)) rfl rfl (by kernel_rfl) (by kernel_rfl) (by kernel_rfl) (fun _ _ _ h => h) (Or.inl ⟨by rfl, ?_⟩) hS9 ?_
    · intro x hx
      go_simp
      try with_reducible rfl
    simp only [Act.put, List.setIfInBounds_toArray, List.set_cons_zero, List.set_cons_succ]
    refine h_take (j := 1) (e' := some 50) (v := .agg #[.int .i64 y0, .int .i64 y1, .int .i64 y2, .int .i64 y3]) rfl rfl (by kernel_rfl) (by kernel_rfl) (by kernel_rfl) (fun _ _ _ h => h) (Or.inl ⟨by rfl, ?_⟩) hS9 ?_
    · intro x hx
      obtain ⟨c0, c1, c2, c3⟩ := hx
      go_simp
      try with_reducible rfl
    simp only [Act.put, List.setIfInBounds_toArray, List.set_cons_zero, List.set_cons_succ]
    refine h_take (j := 2) (e' := some 51) (v := .int .i64 pn) rfl rfl (by kernel_rfl) (by kernel_rfl) (by kernel_rfl) (fun _ _ _ h => h) (Or.inl ⟨by rfl, ?_⟩) hS9 ?_
    · intro x hx
      go_simp
      try with_reducible rfl
    simp only [Act.put, List.setIfInBounds_toArray, List.set_cons_zero, List.set_cons_succ]
    refine h_take (j := 3) (e' := some 2) (v := (.slice al l.length cl)) rfl rfl (by kernel_rfl) (by kernel_rfl) (by kernel_rfl) (fun _ _ _ h => h) (Or.inl ⟨by rfl, ?_⟩) hS9 ?_
    · intro x hx
      go_simp
      try with_reducible rfl
    simp only [Act.put, List.setIfInBounds_toArray, List.set_cons_zero, List.set_cons_succ]
    refine h_store (s := 4) (N := w.heap.size) (cells := #[.int .i64 y0, .int .i64 y1, .int .i64 y2, .int .i64 y3]) rfl rfl rfl rfl (by kernel_rfl) rfl rfl HEX.out (by kernel_rfl) rfl (voteOne _ _ _ _) ?_
    intro w9 hg9 hk9
    have hkx : w9.heap[X]? = some (.cells #[.int .i64 y0, .int .i64 y1, .int .i64 y2, .int .i64 y3] 31 (0, 0)) := (hg9.block _ (Array.getElem?_eq_some_iff.1 HKX.out).1 (fun e => by have := Option.some.inj e; omega)).trans HKX.out
    refine ⟨Four.of hkx, ?_⟩
    refine h_take (j := 5) (e' := some 4) (v := .int .i64 pn) rfl rfl (by kernel_rfl) (by kernel_rfl) (by kernel_rfl) (fun _ _ _ h => h) (Or.inl ⟨by rfl, ?_⟩) (Four.of hkx) ?_
    · intro x hx
      go_simp
      try with_reducible rfl
    simp only [Act.put, List.setIfInBounds_toArray, List.set_cons_zero, List.set_cons_succ]
    refine wpAnyH_done (by kernel_rfl) ?_ _
    obtain ⟨m0, m1, m2, m3⟩ := vote_cells hk9
    have HG9 : Hid (W6.drew.grownBy w9 (Option.some w.heap.size)) := hg9
    clear hkx hg9 hk9 hS9
    go_wp2
    refine bodyPost_ret (v := .tuple #[(.slice al l.length cl), .agg #[.int .i64 y0, .int .i64 y1, .int .i64 y2, .int .i64 y3], .int .i64 pn]) (by simp [results, Try.results41, go_sem, m0, m1, m2, m3]) rfl ?_
    unfold ProvenR
    have hbd : Below w.heap.size w W6.drew := (bt HB0.out HBX.out).drew
    have hpn := HP.out
    exact ⟨_, l, (y0, y1, y2, y3), pn, rfl, hl8, own_base (World.ownsRow.kept (HOV6.out) (grown_tr (r := Option.some w.heap.size) (grown_none (Below.refl _ _).drew) HG9.out) (own_far (HOV6.out) (by omega))) (by omega), HWY.out, (by simp at hpn; omega), hbd.grown HG9.out hbd.size (fun y hy => by cases hy; exact Nat.le_refl _)⟩
  have hlp : 0 < l.length := by omega
  have e0 : decide ((0 : Int) < (l.length : Int)) = true := decide_eq_true (by omega)
  have e0n : decide (0 < l.length) = true := decide_eq_true hlp
  clear hz
  go_wp2_with fail
  rw [← hW6]
  rw [← hX]
  clear hW6 hX
  refine (once_st 2 (by omega) (by omega) HS6.out).mono ?_
  rintro e w7 ⟨t, rfl, hS, hg⟩
  have HG7 : Hid (w1.grownBy w7 (Option.some B)) := grown_tr HG6.out hg
  have HOV7 : Hid (w7.ownsRow w3.heap.size 54 4 (.slice al l.length cl) l.length (flatR voteF l)) := World.ownsRow.kept HOV6.out hg (own_far HOV6.out (by omega))
  have HK7 : Hid (w7.heap[X]? = some (.cells #[.int .i64 y0, .int .i64 y1, .int .i64 y2, .int .i64 y3] 31 (0, 0))) := (hg.block _ l6 (fun e => by have := Option.some.inj e; omega)).trans HK6.out
  have hs7 := HG7.out.size
  clear hS hg
  cases t with
  | false =>
    have HKX : Hid (w7.heap[X]? = some (.cells #[.int .i64 y0, .int .i64 y1, .int .i64 y2, .int .i64 y3] 31 (0, 0))) := HK7.out
    have HBX : Hid (Below W0.heap.size W0 w7) := drawn_below HB1.out hN HG7.out
    have HEX : Hid (w7.heap[w.heap.size]? = some (.cells #[.int .i64 0, .int .i64 0, .int .i64 0, .int .i64 0] 31 (0, 0))) := (HBX.out.block _ l0).trans HE0.out
    go_wp2
    refine wp_region_H (Four X (.int .i64 y0) (.int .i64 y1) (.int .i64 y2) (.int .i64 y3)) (by kernel_rfl) ?_
    show wpAnyH Try.prog _ _ _ _ (5 + 1) (Array.replicate 6 false) _ _
    have hS9 : Four X (.int .i64 y0) (.int .i64 y1) (.int .i64 y2) (.int .i64 y3) w7.drew := Four.of (t := 31) HKX.out
    refine h_take (j := 0) (e' := some 49) (v := (.slice al l.length cl)) rfl rfl (by kernel_rfl) (by kernel_rfl) (by kernel_rfl) (fun _ _ _ h => h) (Or.inl ⟨by rfl, ?_⟩) hS9 ?_
    · intro x hx
      go_simp
      try with_reducible rfl
    simp only [Act.put, List.setIfInBounds_toArray, List.set_cons_zero, List.set_cons_succ]
    refine h_take (j := 1) (e' := some 50) (v := .agg #[.int .i64 y0, .int .i64 y1, .int .i64 y2, .int .i64 y3]) rfl rfl (by kernel_rfl) (by kernel_rfl) (by kernel_rfl) (fun _ _ _ h => h) (Or.inl ⟨by rfl, ?_⟩) hS9 ?_
    · intro x hx
      obtain ⟨c0, c1, c2, c3⟩ := hx
      go_simp
      try with_reducible rfl
    simp only [Act.put, List.setIfInBounds_toArray, List.set_cons_zero, List.set_cons_succ]
    refine h_take (j := 2) (e' := some 51) (v := .int .i64 pn) rfl rfl (by kernel_rfl) (by kernel_rfl) (by kernel_rfl) (fun _ _ _ h => h) (Or.inl ⟨by rfl, ?_⟩) hS9 ?_
    · intro x hx
      go_simp
      try with_reducible rfl
    simp only [Act.put, List.setIfInBounds_toArray, List.set_cons_zero, List.set_cons_succ]
    refine h_take (j := 3) (e' := some 2) (v := (.slice al l.length cl)) rfl rfl (by kernel_rfl) (by kernel_rfl) (by kernel_rfl) (fun _ _ _ h => h) (Or.inl ⟨by rfl, ?_⟩) hS9 ?_
    · intro x hx
      go_simp
      try with_reducible rfl
    simp only [Act.put, List.setIfInBounds_toArray, List.set_cons_zero, List.set_cons_succ]
    refine h_store (s := 4) (N := w.heap.size) (cells := #[.int .i64 y0, .int .i64 y1, .int .i64 y2, .int .i64 y3]) rfl rfl rfl rfl (by kernel_rfl) rfl rfl HEX.out (by kernel_rfl) rfl (voteOne _ _ _ _) ?_
    intro w9 hg9 hk9
    have hkx : w9.heap[X]? = some (.cells #[.int .i64 y0, .int .i64 y1, .int .i64 y2, .int .i64 y3] 31 (0, 0)) := (hg9.block _ (Array.getElem?_eq_some_iff.1 HKX.out).1 (fun e => by have := Option.some.inj e; omega)).trans HKX.out
    refine ⟨Four.of hkx, ?_⟩
    refine h_take (j := 5) (e' := some 4) (v := .int .i64 pn) rfl rfl (by kernel_rfl) (by kernel_rfl) (by kernel_rfl) (fun _ _ _ h => h) (Or.inl ⟨by rfl, ?_⟩) (Four.of hkx) ?_
    · intro x hx
      go_simp
      try with_reducible rfl
    simp only [Act.put, List.setIfInBounds_toArray, List.set_cons_zero, List.set_cons_succ]
    refine wpAnyH_done (by kernel_rfl) ?_ _
    obtain ⟨m0, m1, m2, m3⟩ := vote_cells hk9
    have HG9 : Hid (w7.drew.grownBy w9 (Option.some w.heap.size)) := hg9
    clear hkx hg9 hk9 hS9
    go_wp2
    refine bodyPost_ret (v := .tuple #[(.slice al l.length cl), .agg #[.int .i64 y0, .int .i64 y1, .int .i64 y2, .int .i64 y3], .int .i64 pn]) (by simp [results, Try.results41, go_sem, m0, m1, m2, m3]) rfl ?_
    unfold ProvenR
    have hbd : Below w.heap.size w w7.drew := (bt HB0.out HBX.out).drew
    have hpn := HP.out
    exact ⟨_, l, (y0, y1, y2, y3), pn, rfl, hl8, own_base (World.ownsRow.kept (HOV7.out) (grown_tr (r := Option.some w.heap.size) (grown_none (Below.refl _ _).drew) HG9.out) (own_far (HOV7.out) (by omega))) (by omega), HWY.out, (by simp at hpn; omega), hbd.grown HG9.out hbd.size (fun y hy => by cases hy; exact Nat.le_refl _)⟩
  | true =>
    obtain ⟨gl, rfl⟩ := HFV.out hlp
    have hXG : Hid (gl < X) := (by have := (HOV.out.lt gl rfl).2; have := HX4.out; omega : gl < X)
    obtain ⟨xx, hxx⟩ : ∃ xx, xx = l[0] := ⟨_, rfl⟩
    have hxd : VD (bks qs) xx := by rw [hxx]; exact HVD.out _ (List.getElem_mem _)
    obtain ⟨x0, x1, x2, x3⟩ := xx
    obtain ⟨d0, d1, d2, d3⟩ := hxd
    simp only at d0 d1 d2 d3
    obtain ⟨ar, cr, er, hr⟩ := rows_of_own voteF_len HOV7.out
    cases er
    obtain ⟨g2, o2, e2, hgl, hcs⟩ := hr hlp
    cases e2
    have c0 : w7.cell? ⟨gl, 0, none⟩ = some (.int .i64 x0) := by have := hcs 0 hlp 0 (by omega); rw [← hxx] at this; simpa [voteF] using this
    have c1 : w7.cell? ⟨gl, 1, none⟩ = some (.int .i64 x1) := by have := hcs 0 hlp 1 (by omega); rw [← hxx] at this; simpa [voteF] using this
    have c2 : w7.cell? ⟨gl, 2, none⟩ = some (.int .i64 x2) := by have := hcs 0 hlp 2 (by omega); rw [← hxx] at this; simpa [voteF] using this
    have c3 : w7.cell? ⟨gl, 3, none⟩ = some (.int .i64 x3) := by have := hcs 0 hlp 3 (by omega); rw [← hxx] at this; simpa [voteF] using this
    have q1 : (0 : Int) < (l.length : Int) := by omega
    obtain ⟨W8, hW8⟩ : ∃ W8, W8 = w7.alloc (.cells #[.int .i64 x0, .int .i64 x1, .int .i64 x2, .int .i64 x3] 54) := ⟨_, rfl⟩
    have hb8 : Below w7.heap.size w7 W8 := by rw [hW8]; exact (Below.refl _ _).alloc (Nat.le_refl _) _
    have HV8 : Hid (W8.heap[w7.heap.size]? = some (.cells #[.int .i64 x0, .int .i64 x1, .int .i64 x2, .int .i64 x3] 54 (0, 0))) := (by rw [hW8]; exact heap_alloc_new w7 _ : W8.heap[w7.heap.size]? = _)
    have HK8 : Hid (W8.heap[X]? = some (.cells #[.int .i64 y0, .int .i64 y1, .int .i64 y2, .int .i64 y3] 31 (0, 0))) := (hb8.block _ (Array.getElem?_eq_some_iff.1 HK7.out).1).trans HK7.out
    have lX7 : X < w7.heap.size := (Array.getElem?_eq_some_iff.1 HK7.out).1
    have HOV8 : Hid (W8.ownsRow w3.heap.size 54 4 (.slice (some ⟨gl, 0, none⟩) l.length cl) l.length (flatR voteF l)) := own_kept HOV7.out hb8
    have HG8 : Hid (w1.grownBy W8 (Option.some B)) := grown_tr HG7.out (grown_none hb8)
    have l8 : w7.heap.size < W8.heap.size := (Array.getElem?_eq_some_iff.1 HV8.out).1
    obtain ⟨Y, hY⟩ : ∃ Y, Y = w7.heap.size := ⟨_, rfl⟩
    rw [← hY] at HV8 l8 lX7
    have HWX : Hid (fitI x0 ∧ fitI x1 ∧ fitI x2) := ⟨⟨by omega, by omega⟩, ⟨by omega, by omega⟩, ⟨by omega, by omega⟩⟩
    clear hcs hr hxx d0 d1 d2 d3 hb8
    go_wp2
    rw [← hW8, ← hY]
    clear hW8 hY c0 c1 c2 c3
    refine wp_region_H (Four Y (.int .i64 x0) (.int .i64 x1) (.int .i64 x2) (.int .i64 x3)) (by kernel_rfl) ?_
    show wpAnyH Try.prog _ _ _ _ (15 + 1) (Array.replicate 16 false) _ _
    have hS8 : Four Y (.int .i64 x0) (.int .i64 x1) (.int .i64 x2) (.int .i64 x3) W8.drew := Four.of (t := 54) HV8.out
    refine h_take (j := 0) (e' := some 34) (v := .pointer (some ⟨Y, 0, none⟩)) rfl rfl (by kernel_rfl) (by kernel_rfl) (by kernel_rfl) (fun _ _ _ h => h) (Or.inl ⟨by rfl, ?_⟩) hS8 ?_
    · intro x hx
      go_simp
      try with_reducible rfl
    simp only [Act.put, List.setIfInBounds_toArray, List.set_cons_zero, List.set_cons_succ]
    refine h_take (j := 1) (e' := some 35) (v := .int .i64 x0) rfl rfl (by kernel_rfl) (by kernel_rfl) (by kernel_rfl) (fun _ _ _ h => h) (Or.inl ⟨by rfl, ?_⟩) hS8 ?_
    · intro x hx
      obtain ⟨c0, c1, c2, c3⟩ := hx
      go_simp
      try with_reducible rfl
    simp only [Act.put, List.setIfInBounds_toArray, List.set_cons_zero, List.set_cons_succ]
    refine h_take (j := 2) (e' := some 36) (v := .pointer (some ⟨Y, 1, none⟩)) rfl rfl (by kernel_rfl) (by kernel_rfl) (by kernel_rfl) (fun _ _ _ h => h) (Or.inl ⟨by rfl, ?_⟩) hS8 ?_
    · intro x hx
      go_simp
      try with_reducible rfl
    simp only [Act.put, List.setIfInBounds_toArray, List.set_cons_zero, List.set_cons_succ]
    refine h_take (j := 3) (e' := some 37) (v := .int .i64 x1) rfl rfl (by kernel_rfl) (by kernel_rfl) (by kernel_rfl) (fun _ _ _ h => h) (Or.inl ⟨by rfl, ?_⟩) hS8 ?_
    · intro x hx
      obtain ⟨c0, c1, c2, c3⟩ := hx
      go_simp
      try with_reducible rfl
    simp only [Act.put, List.setIfInBounds_toArray, List.set_cons_zero, List.set_cons_succ]
    refine h_take (j := 4) (e' := some 38) (v := .pointer (some ⟨Y, 2, none⟩)) rfl rfl (by kernel_rfl) (by kernel_rfl) (by kernel_rfl) (fun _ _ _ h => h) (Or.inl ⟨by rfl, ?_⟩) hS8 ?_
    · intro x hx
      go_simp
      try with_reducible rfl
    simp only [Act.put, List.setIfInBounds_toArray, List.set_cons_zero, List.set_cons_succ]
    refine h_take (j := 5) (e' := some 39) (v := .int .i64 x2) rfl rfl (by kernel_rfl) (by kernel_rfl) (by kernel_rfl) (fun _ _ _ h => h) (Or.inl ⟨by rfl, ?_⟩) hS8 ?_
    · intro x hx
      obtain ⟨c0, c1, c2, c3⟩ := hx
      go_simp
      try with_reducible rfl
    simp only [Act.put, List.setIfInBounds_toArray, List.set_cons_zero, List.set_cons_succ]
    refine h_take (j := 6) (e' := some 40) (v := (.slice (some ⟨gl, 0, none⟩) l.length cl)) rfl rfl (by kernel_rfl) (by kernel_rfl) (by kernel_rfl) (fun _ _ _ h => h) (Or.inl ⟨by rfl, ?_⟩) hS8 ?_
    · intro x hx
      go_simp
      try with_reducible rfl
    simp only [Act.put, List.setIfInBounds_toArray, List.set_cons_zero, List.set_cons_succ]
    refine h_take (j := 7) (e' := some 41) (v := .pointer (some ⟨Y, 0, none⟩)) rfl rfl (by kernel_rfl) (by kernel_rfl) (by kernel_rfl) (fun _ _ _ h => h) (Or.inl ⟨by rfl, ?_⟩) hS8 ?_
    · intro x hx
      go_simp
      try with_reducible rfl
    simp only [Act.put, List.setIfInBounds_toArray, List.set_cons_zero, List.set_cons_succ]
    refine h_take (j := 8) (e' := some 42) (v := .int .i64 x0) rfl rfl (by kernel_rfl) (by kernel_rfl) (by kernel_rfl) (fun _ _ _ h => h) (Or.inl ⟨by rfl, ?_⟩) hS8 ?_
    · intro x hx
      obtain ⟨c0, c1, c2, c3⟩ := hx
      go_simp
      try with_reducible rfl
    simp only [Act.put, List.setIfInBounds_toArray, List.set_cons_zero, List.set_cons_succ]
    refine h_take (j := 9) (e' := some 43) (v := .pointer (some ⟨Y, 1, none⟩)) rfl rfl (by kernel_rfl) (by kernel_rfl) (by kernel_rfl) (fun _ _ _ h => h) (Or.inl ⟨by rfl, ?_⟩) hS8 ?_
    · intro x hx
      go_simp
      try with_reducible rfl
    simp only [Act.put, List.setIfInBounds_toArray, List.set_cons_zero, List.set_cons_succ]
    refine h_take (j := 10) (e' := some 44) (v := .int .i64 x1) rfl rfl (by kernel_rfl) (by kernel_rfl) (by kernel_rfl) (fun _ _ _ h => h) (Or.inl ⟨by rfl, ?_⟩) hS8 ?_
    · intro x hx
      obtain ⟨c0, c1, c2, c3⟩ := hx
      go_simp
      try with_reducible rfl
    simp only [Act.put, List.setIfInBounds_toArray, List.set_cons_zero, List.set_cons_succ]
    refine h_take (j := 11) (e' := some 45) (v := .pointer (some ⟨Y, 2, none⟩)) rfl rfl (by kernel_rfl) (by kernel_rfl) (by kernel_rfl) (fun _ _ _ h => h) (Or.inl ⟨by rfl, ?_⟩) hS8 ?_
    · intro x hx
      go_simp
      try with_reducible rfl
    simp only [Act.put, List.setIfInBounds_toArray, List.set_cons_zero, List.set_cons_succ]
    refine h_take (j := 12) (e' := some 46) (v := .int .i64 x2) rfl rfl (by kernel_rfl) (by kernel_rfl) (by kernel_rfl) (fun _ _ _ h => h) (Or.inl ⟨by rfl, ?_⟩) hS8 ?_
    · intro x hx
      obtain ⟨c0, c1, c2, c3⟩ := hx
      go_simp
      try with_reducible rfl
    simp only [Act.put, List.setIfInBounds_toArray, List.set_cons_zero, List.set_cons_succ]
    refine h_call (c := 13) (e' := some 47) (fn := 52) (args := #[.slice (some ⟨gl, 0, none⟩) l.length cl, .int .i64 x0, .int .i64 x1, .int .i64 x2]) rfl rfl (by kernel_rfl) (by rfl) ?_ ((signers_s l _ x0 x1 x2 W8.drew (rows_of_own voteF_len (own_kept HOV8.out (Below.refl _ _).drew)) (by omega)).mono ?_)
    · go_simp
      try with_reducible rfl
    rintro e w10 ⟨rfl, hb10⟩
    obtain ⟨s0, s1⟩ := signersT_bounds l x0 x1 x2
    obtain ⟨x4, hx4⟩ : ∃ x4, x4 = signersT l x0 x1 x2 := ⟨_, rfl⟩
    rw [← hx4] at s0 s1 ⊢
    have hb10' : Below W8.heap.size W8 w10 := bt (Below.refl _ _).drew hb10
    have HV10 : Hid (w10.heap[Y]? = some (.cells #[.int .i64 x0, .int .i64 x1, .int .i64 x2, .int .i64 x3] 54 (0, 0))) := (hb10'.block _ l8).trans HV8.out
    have HK10 : Hid (w10.heap[X]? = some (.cells #[.int .i64 y0, .int .i64 y1, .int .i64 y2, .int .i64 y3] 31 (0, 0))) := (hb10'.block _ (by omega)).trans HK8.out
    have HOV10 : Hid (w10.ownsRow w3.heap.size 54 4 (.slice (some ⟨gl, 0, none⟩) l.length cl) l.length (flatR voteF l)) := own_kept HOV8.out hb10'
    have HG10 : Hid (w1.grownBy w10 (Option.some B)) := grown_tr HG8.out (grown_none hb10')
    have l10 : Y < w10.heap.size := (Array.getElem?_eq_some_iff.1 HV10.out).1
    have hS10 : Four Y (.int .i64 x0) (.int .i64 x1) (.int .i64 x2) (.int .i64 x3) w10 := Four.of HV10.out
    clear hx4 hb10 hb10' hS8
    refine ⟨_, rfl, hS10, ?_⟩
    simp only [Act.put, List.setIfInBounds_toArray, List.set_cons_zero, List.set_cons_succ]
    refine h_take (j := 14) (e' := some 48) (v := .agg #[.int .i64 x0, .int .i64 x1, .int .i64 x2, .int .i64 x4]) rfl rfl (by kernel_rfl) (by kernel_rfl) (by kernel_rfl) (fun _ _ _ h => h) (Or.inl ⟨by rfl, ?_⟩) hS10 ?_
    · intro x hx
      go_simp
      try with_reducible rfl
    simp only [Act.put, List.setIfInBounds_toArray, List.set_cons_zero, List.set_cons_succ]
    refine h_store (s := 15) (N := X) (cells := #[.int .i64 x0, .int .i64 x1, .int .i64 x2, .int .i64 x4]) rfl rfl rfl rfl (by kernel_rfl) rfl rfl HK10.out (by kernel_rfl) rfl (voteOne _ _ _ _) ?_
    intro w11 hg11 hk11
    have hv11 : w11.heap[Y]? = some (.cells #[.int .i64 x0, .int .i64 x1, .int .i64 x2, .int .i64 x3] 54 (0, 0)) := (hg11.block _ l10 (fun e => by have := Option.some.inj e; omega)).trans HV10.out
    have HKX : Hid (w11.heap[X]? = some (.cells #[.int .i64 x0, .int .i64 x1, .int .i64 x2, .int .i64 x4] 31 (0, 0))) := hk11
    have HOV11 : Hid (w11.ownsRow w3.heap.size 54 4 (.slice (some ⟨gl, 0, none⟩) l.length cl) l.length (flatR voteF l)) := World.ownsRow.kept HOV10.out hg11 (Or.inr (fun e => by have h1 := Option.some.inj (show some gl = some X from e); have h2 := hXG.out; omega))
    have HG11 : Hid (w1.grownBy w11 (Option.some B)) := grown_two HG10.out (by omega) hg11
    have hs11 := HG11.out.size
    clear hg11 hk11
    refine ⟨Four.of hv11, wpAnyH_done (by kernel_rfl) ?_ _⟩
    clear hv11 hS10
    have HWQ : Hid (wfQ (x0, x1, x2, x4)) := wfQ_of HWX.out.1 HWX.out.2.1 HWX.out.2.2 ⟨by omega, by omega⟩
    obtain ⟨x5, hx5⟩ : ∃ x5, x5 = x4 := ⟨_, rfl⟩
    rw [← hx5] at HKX HWQ ⊢
    clear hx5
    have HBX : Hid (Below W0.heap.size W0 w11) := drawn_below HB1.out hN HG11.out
    have HEX : Hid (w11.heap[w.heap.size]? = some (.cells #[.int .i64 0, .int .i64 0, .int .i64 0, .int .i64 0] 31 (0, 0))) := (HBX.out.block _ l0).trans HE0.out
    go_wp2
    refine wp_region_H (Four X (.int .i64 x0) (.int .i64 x1) (.int .i64 x2) (.int .i64 x5)) (by kernel_rfl) ?_
    show wpAnyH Try.prog _ _ _ _ (5 + 1) (Array.replicate 6 false) _ _
    have hS9 : Four X (.int .i64 x0) (.int .i64 x1) (.int .i64 x2) (.int .i64 x5) w11.drew := Four.of (t := 31) HKX.out
    refine h_take (j := 0) (e' := some 49) (v := (.slice (some ⟨gl, 0, none⟩) l.length cl)) rfl rfl (by kernel_rfl) (by kernel_rfl) (by kernel_rfl) (fun _ _ _ h => h) (Or.inl ⟨by rfl, ?_⟩) hS9 ?_
    · intro x hx
      go_simp
      try with_reducible rfl
    simp only [Act.put, List.setIfInBounds_toArray, List.set_cons_zero, List.set_cons_succ]
    refine h_take (j := 1) (e' := some 50) (v := .agg #[.int .i64 x0, .int .i64 x1, .int .i64 x2, .int .i64 x5]) rfl rfl (by kernel_rfl) (by kernel_rfl) (by kernel_rfl) (fun _ _ _ h => h) (Or.inl ⟨by rfl, ?_⟩) hS9 ?_
    · intro x hx
      obtain ⟨c0, c1, c2, c3⟩ := hx
      go_simp
      try with_reducible rfl
    simp only [Act.put, List.setIfInBounds_toArray, List.set_cons_zero, List.set_cons_succ]
    refine h_take (j := 2) (e' := some 51) (v := .int .i64 pn) rfl rfl (by kernel_rfl) (by kernel_rfl) (by kernel_rfl) (fun _ _ _ h => h) (Or.inl ⟨by rfl, ?_⟩) hS9 ?_
    · intro x hx
      go_simp
      try with_reducible rfl
    simp only [Act.put, List.setIfInBounds_toArray, List.set_cons_zero, List.set_cons_succ]
    refine h_take (j := 3) (e' := some 2) (v := (.slice (some ⟨gl, 0, none⟩) l.length cl)) rfl rfl (by kernel_rfl) (by kernel_rfl) (by kernel_rfl) (fun _ _ _ h => h) (Or.inl ⟨by rfl, ?_⟩) hS9 ?_
    · intro x hx
      go_simp
      try with_reducible rfl
    simp only [Act.put, List.setIfInBounds_toArray, List.set_cons_zero, List.set_cons_succ]
    refine h_store (s := 4) (N := w.heap.size) (cells := #[.int .i64 x0, .int .i64 x1, .int .i64 x2, .int .i64 x5]) rfl rfl rfl rfl (by kernel_rfl) rfl rfl HEX.out (by kernel_rfl) rfl (voteOne _ _ _ _) ?_
    intro w9 hg9 hk9
    have hkx : w9.heap[X]? = some (.cells #[.int .i64 x0, .int .i64 x1, .int .i64 x2, .int .i64 x5] 31 (0, 0)) := (hg9.block _ (Array.getElem?_eq_some_iff.1 HKX.out).1 (fun e => by have := Option.some.inj e; omega)).trans HKX.out
    refine ⟨Four.of hkx, ?_⟩
    refine h_take (j := 5) (e' := some 4) (v := .int .i64 pn) rfl rfl (by kernel_rfl) (by kernel_rfl) (by kernel_rfl) (fun _ _ _ h => h) (Or.inl ⟨by rfl, ?_⟩) (Four.of hkx) ?_
    · intro x hx
      go_simp
      try with_reducible rfl
    simp only [Act.put, List.setIfInBounds_toArray, List.set_cons_zero, List.set_cons_succ]
    refine wpAnyH_done (by kernel_rfl) ?_ _
    obtain ⟨m0, m1, m2, m3⟩ := vote_cells hk9
    have HG9 : Hid (w11.drew.grownBy w9 (Option.some w.heap.size)) := hg9
    clear hkx hg9 hk9 hS9
    go_wp2
    refine bodyPost_ret (v := .tuple #[(.slice (some ⟨gl, 0, none⟩) l.length cl), .agg #[.int .i64 x0, .int .i64 x1, .int .i64 x2, .int .i64 x5], .int .i64 pn]) (by simp [results, Try.results41, go_sem, m0, m1, m2, m3]) rfl ?_
    unfold ProvenR
    have hbd : Below w.heap.size w w11.drew := (bt HB0.out HBX.out).drew
    have hpn := HP.out
    exact ⟨_, l, (x0, x1, x2, x5), pn, rfl, hl8, own_base (World.ownsRow.kept (HOV11.out) (grown_tr (r := Option.some w.heap.size) (grown_none (Below.refl _ _).drew) HG9.out) (own_far (HOV11.out) (by omega))) (by omega), HWQ.out, (by simp at hpn; omega), hbd.grown HG9.out hbd.size (fun y hy => by cases hy; exact Nat.le_refl _)⟩

end Go.Proofs.Ytjdddcldbfhbiab
