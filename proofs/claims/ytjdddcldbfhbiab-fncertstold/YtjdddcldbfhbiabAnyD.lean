/-
  A vote that is drawn and bent: l07Any. (Made by ga7.py.)
-/
import Derived.Test.YtjdddcldbfhbiabVotesD
import Derived.Deep.Cut
namespace Go.Proofs.Ytjdddcldbfhbiab
open Go.RowKit Num

theorem wfV_of {a b c d : Int} (h0 : -9223372036854775808 ≤ a ∧ a ≤ 9223372036854775807) (h1 : -9223372036854775808 ≤ b ∧ b ≤ 9223372036854775807) (h2 : -9223372036854775808 ≤ c ∧ c ≤ 9223372036854775807) (h3 : -9223372036854775808 ≤ d ∧ d ≤ 9223372036854775807) : wfV (a, b, c, d) := ⟨wf_of h0.1 h0.2, wf_of h1.1 h1.2, wf_of h2.1 h2.2, wf_of h3.1 h3.2⟩

/-- a list of numbers as a block's cells -/
def intsA (xs : List Int) : Array Value := (xs.map fun x => Value.int .i64 x).toArray
theorem pickL_st {w : World} {B L : Nat} {ao : Option Addr} {len cap b off : Nat} (xs : List Int) (hn : 0 < xs.length) (hn2 : xs.length ≤ 1000) (h : St w B ao len cap b off) (hL : L ≠ B) {t : TypeId} (hc : w.heap[L]? = Option.some (.cells (intsA xs) t (0, 0))) :
    Calls Try.prog 68 #[.pointer (Option.some ⟨B, 0, none⟩), .slice (Option.some ⟨L, 0, none⟩) xs.length xs.length] w fun e w' => ∃ z, z ∈ xs ∧ e = .returned (.int .i64 z) ∧ St w' B ao len cap b off ∧ w.grownBy w' (Option.some B) := by
  refine (pickI_st (fun k => xs.getD k 0) xs.length hn hn2 h hL (Array.getElem?_eq_some_iff.1 hc).1 (fun k hk => ?_)).mono ?_
  · rw [cell_of_row _ L k _ _ (0, 0) hc]
    unfold intsA
    simp [hk]
  · rintro e w' ⟨k, hk, rfl, hS, hg⟩
    exact ⟨_, by simp [hk], rfl, hS, hg⟩

set_option maxRecDepth 100000 in
set_option maxHeartbeats 1000000 in
theorem placeB_st {w : World} {B : Nat} {ao : Option Addr} {len cap b off : Nat} (n : Int) (hn : 0 < n) (hn2 : n ≤ 1000) (h : St w B ao len cap b off) :
    Calls Try.prog 74 #[.pointer (Option.some ⟨B, 0, none⟩), .int .i64 n] w fun e w' => ∃ x : Int, e = .returned (.int .i64 x) ∧ (-9223372036854775808 ≤ x ∧ x ≤ 9223372036854775807) ∧ St w' B ao len cap b off ∧ w.grownBy w' (Option.some B) := by
  have H : Hid (St w B ao len cap b off) := h
  clear h
  go_enter Try.func74, Try.ntmps74
  go_wp2_with fail
  refine (once_st 15 (by omega) (by omega) H.out).mono ?_
  rintro e w1 ⟨x, rfl, hS, hg⟩
  have HS1 : Hid (St w1 B ao len cap b off) := hS
  have HG1 : Hid (w.grownBy w1 (Option.some B)) := hg
  have hB1 := hS.cur.lt
  clear hS hg
  cases x with
  | true =>
    have HB : Hid (Below w1.heap.size w1 (w1.alloc (.cells #[.int .i64 (-1), .int .i64 n, .int .i64 (n + 1), .int .i64 9223372036854775807, .int .i64 (-9223372036854775808)] 3))) := (Below.refl _ _).alloc (Nat.le_refl _) _
    have HK : Hid ((w1.alloc (.cells #[.int .i64 (-1), .int .i64 n, .int .i64 (n + 1), .int .i64 9223372036854775807, .int .i64 (-9223372036854775808)] 3)).heap[w1.heap.size]? = some (.cells (intsA [-1, n, n + 1, 9223372036854775807, -9223372036854775808]) 3 (0, 0))) := heap_alloc_new w1 _
    go_wp2_with fail
    refine (pickL_st [-1, n, n + 1, 9223372036854775807, -9223372036854775808] (by simp) (by simp) (HS1.out.below HB.out) (by omega) HK.out).mono ?_
    rintro e w2 ⟨y, hy, rfl, hS, hg⟩
    have HS2 : Hid (St w2 B ao len cap b off) := hS
    have HG2 : Hid (w.grownBy w2 (Option.some B)) := grown_tr HG1.out (grown_tr (grown_none HB.out) hg)
    have HY : Hid (-9223372036854775808 ≤ y ∧ y ≤ 9223372036854775807) := (by simp at hy; omega : -9223372036854775808 ≤ y ∧ y ≤ 9223372036854775807)
    clear hS hg hy
    go_wp2
    go_ret
    exact ⟨_, rfl, HY.out, HS2.out, HG2.out⟩
  | false =>
    go_wp2_with fail
    refine (below_st n hn (by omega) HS1.out).mono ?_
    rintro e w2 ⟨y, rfl, h0, h1, hS, hg⟩
    have HS2 : Hid (St w2 B ao len cap b off) := hS
    have HG2 : Hid (w.grownBy w2 (Option.some B)) := grown_tr HG1.out hg
    clear hS hg
    go_wp2
    go_ret
    exact ⟨_, rfl, by omega, HS2.out, HG2.out⟩

set_option maxRecDepth 100000 in
set_option maxHeartbeats 8000000 in
theorem any7_st {w : World} {B base : Nat} {ao : Option Addr} {len cap b off : Nat} {v : Value} {qs : TL} {n : Nat} (h : St w B ao len cap b off) (ho : OwnU w base v qs) (hB : B < base) (hbt : BT (bks qs) n) (hn : n ≤ 1000) :
    Calls Try.prog 70 #[.pointer (Option.some ⟨B, 0, none⟩), v] w fun e w' => ∃ x : VT, e = .returned (voteV x) ∧ wfV x ∧ St w' B ao len cap b off ∧ w.grownBy w' (Option.some B) := by
  have H : Hid (St w B ao len cap b off) := h
  have hBw := h.cur.lt
  have HCL : Hid (0 < len → b < w.heap.size) := h.code.lt
  have HO : Hid (OwnU w base v qs) := ho
  have HBT : Hid (BT (bks qs) n) := hbt
  have hbn := hbt.2.1
  clear h ho hbt
  obtain ⟨W0, hW0⟩ : ∃ W0, W0 = w.alloc (.cells #[.int .i64 0, .int .i64 0, .int .i64 0, .int .i64 0] 54) := ⟨_, rfl⟩
  have HB0 : Hid (Below w.heap.size w W0) := (by rw [hW0]; exact (Below.refl _ _).alloc (Nat.le_refl _) _ : Below w.heap.size w W0)
  have HE0 : Hid (W0.heap[w.heap.size]? = some (.cells #[.int .i64 0, .int .i64 0, .int .i64 0, .int .i64 0] 54 (0, 0))) := (by rw [hW0]; exact heap_alloc_new w _ : W0.heap[w.heap.size]? = _)
  go_enter Try.func70, Try.ntmps70
  go_wp2_with fail
  rw [← hW0]
  clear hW0
  refine (below_st 10 (by omega) (by omega) (H.out.below HB0.out)).mono ?_
  rintro e w1 ⟨kk, rfl, hk0, hk1, hS, hg⟩
  have HS1 : Hid (St w1 B ao len cap b off) := hS
  have HE1 : Hid (w1.heap[w.heap.size]? = some (.cells #[.int .i64 0, .int .i64 0, .int .i64 0, .int .i64 0] 54 (0, 0))) := (hg.block _ (Array.getElem?_eq_some_iff.1 HE0.out).1 (fun e => by have := Option.some.inj e; omega)).trans HE0.out
  have HG1 : Hid (w.grownBy w1 (Option.some B)) := grown_tr (grown_none HB0.out) hg
  clear hS hg HE0 HB0
  go_wp2_with fail
  refine (below_st 60 (by omega) (by omega) HS1.out).mono ?_
  rintro e w2 ⟨x, rfl, hx0, hx1, hS, hg⟩
  have HS2 : Hid (St w2 B ao len cap b off) := hS
  have HE2 : Hid (w2.heap[w.heap.size]? = some (.cells #[.int .i64 0, .int .i64 0, .int .i64 0, .int .i64 0] 54 (0, 0))) := (hg.block _ (Array.getElem?_eq_some_iff.1 HE1.out).1 (fun e => by have := Option.some.inj e; omega)).trans HE1.out
  have HG2 : Hid (w.grownBy w2 (Option.some B)) := grown_tr HG1.out hg
  clear hS hg HS1 HE1 HG1
  go_wp2_with fail
  refine (vote7_st HS2.out (HO.out.st HG2.out hB) hB HBT.out hn).mono ?_
  rintro e w3 ⟨⟨t0, t1, t2, t3⟩, rfl, hvd, hS, hg⟩
  unfold voteV
  simp only
  obtain ⟨d0, d1, d2, d3⟩ := hvd
  simp only at d0 d1 d2 d3
  have HD : Hid ((1 ≤ t0 ∧ t0 ≤ 4) ∧ (0 ≤ t1 ∧ t1 ≤ 1000) ∧ (0 ≤ t2 ∧ t2 < 1000) ∧ (0 ≤ t3 ∧ t3 ≤ 7)) := ⟨d0, d1, ⟨d2.1, by omega⟩, d3⟩
  have HS3 : Hid (St w3 B ao len cap b off) := hS
  have HE3 : Hid (w3.heap[w.heap.size]? = some (.cells #[.int .i64 0, .int .i64 0, .int .i64 0, .int .i64 0] 54 (0, 0))) := (hg.block _ (Array.getElem?_eq_some_iff.1 HE2.out).1 (fun e => by have := Option.some.inj e; omega)).trans HE2.out
  have HG3 : Hid (w.grownBy w3 (Option.some B)) := grown_tr HG2.out hg
  clear hS hg HS2 HE2 HG2 d0 d1 d2 d3
  obtain ⟨W5, hW5⟩ : ∃ W5, W5 = w3.alloc (.cells #[.int .i64 t0, .int .i64 t1, .int .i64 t2, .int .i64 t3] 54) := ⟨_, rfl⟩
  have HB5 : Hid (Below w3.heap.size w3 W5) := (by rw [hW5]; exact (Below.refl _ _).alloc (Nat.le_refl _) _ : Below w3.heap.size w3 W5)
  have HX5 : Hid (W5.heap[w3.heap.size]? = some (.cells #[.int .i64 t0, .int .i64 t1, .int .i64 t2, .int .i64 t3] 54 (0, 0))) := (by rw [hW5]; exact heap_alloc_new w3 _ : W5.heap[w3.heap.size]? = _)
  have lE : w.heap.size < w3.heap.size := (Array.getElem?_eq_some_iff.1 HE3.out).1
  have HE5 : Hid (W5.heap[w.heap.size]? = some (.cells #[.int .i64 0, .int .i64 0, .int .i64 0, .int .i64 0] 54 (0, 0))) := (HB5.out.block _ lE).trans HE3.out
  have HS5 : Hid (St W5 B ao len cap b off) := HS3.out.below HB5.out
  have HG5 : Hid (w.grownBy W5 (Option.some B)) := grown_tr HG3.out (grown_none HB5.out)
  have lX : w3.heap.size < W5.heap.size := (Array.getElem?_eq_some_iff.1 HX5.out).1
  obtain ⟨X, hX⟩ : ∃ X, X = w3.heap.size := ⟨_, rfl⟩
  rw [← hX] at HX5 lE lX
  clear HS3 HE3 HG3 HB5 HBT HO
  go_upto_region 4 with fail
  rw [← hW5, ← hX]
  clear hW5 hX
  by_cases h0 : kk = 0
  · have e0 : (kk == 0) = true := by simpa using h0
    obtain ⟨wd, hwd⟩ : ∃ wd, wd = W5.setCell ⟨X, 0, none⟩ (.int .i64 (x % 6)) := ⟨_, rfl⟩
    obtain ⟨a0, a1, a2, a3⟩ := vote_cells HX5.out
    have f0 : W5.frozen? ⟨X, 0, none⟩ = false := frozen_of_row _ X 0 _ _ HX5.out
    have hgd : W5.grownBy wd (Option.some X) := by rw [hwd]; exact set_grown _ X 0 _
    have hkd : wd.heap[X]? = some (.cells #[.int .i64 (x % 6), .int .i64 t1, .int .i64 t2, .int .i64 t3] 54 (0, 0)) := by rw [hwd]; exact heap_setCell_same W5 X 0 _ _ _ HX5.out
    obtain ⟨k0, k1, k2, k3⟩ := vote_cells hkd
    have HSd : Hid (St wd B ao len cap b off) := HS5.out.other hgd (by omega) (fun hl e => by have := HCL.out hl; omega)
    have HGd : Hid (w.grownBy wd (Option.some B)) := grown_two HG5.out (by omega) hgd
    have HEd0 : wd.heap[w.heap.size]? = some (.cells #[.int .i64 0, .int .i64 0, .int .i64 0, .int .i64 0] 54 (0, 0)) := (hgd.block _ (by omega) (fun e => by have := Option.some.inj e; omega)).trans HE5.out
    have HEd : Hid ((W5.setCell ⟨X, 0, none⟩ (.int .i64 (x % 6))).heap[w.heap.size]? = some (.cells #[.int .i64 0, .int .i64 0, .int .i64 0, .int .i64 0] 54 (0, 0))) := (by rw [← hwd]; exact HEd0 : (W5.setCell ⟨X, 0, none⟩ (.int .i64 (x % 6))).heap[w.heap.size]? = _)
    rw [hwd] at k0 k1 k2 k3
    obtain ⟨⟨p0, p1⟩, ⟨p2, p3⟩, ⟨p4, p5⟩, p6, p7⟩ := HD.out
    clear h0 hgd hkd HEd0
    go_wp2_with (refine wpList_store_blk rfl _ _ _ rfl w.heap.size #[.int .i64 (x % 6), .int .i64 t1, .int .i64 t2, .int .i64 t3] rfl rfl 54 #[.int .i64 0, .int .i64 0, .int .i64 0, .int .i64 0] HEd.out (by kernel_rfl) rfl (voteOne _ _ _ _) ?_; intro wg hgg hkg hsg; clear hsg; have HGG : Hid (wd.grownBy wg (Option.some w.heap.size)) := (by rw [hwd]; exact hgg : wd.grownBy wg (Option.some w.heap.size)); obtain ⟨m0, m1, m2, m3⟩ := vote_cells hkg; clear hgg hkg)
    refine bodyPost_ret (v := .agg #[.int .i64 (x % 6), .int .i64 t1, .int .i64 t2, .int .i64 t3]) (by simp [results, Try.results70, go_sem, m0, m1, m2, m3]) rfl ?_
    exact ⟨(x % 6, t1, t2, t3), rfl, wfV_of (by omega) (by omega) (by omega) (by omega), HSd.out.other HGG.out (by omega) (fun hl e => by have := HCL.out hl; omega), grown_two HGd.out (Nat.le_refl _) HGG.out⟩
  have e0 : (kk == 0) = false := by simpa using h0
  clear h0
  by_cases h1 : kk = 1
  · have e1 : (kk == 1) = true := by simpa using h1
    obtain ⟨wd, hwd⟩ : ∃ wd, wd = W5.setCell ⟨X, 1, none⟩ (.int .i64 x) := ⟨_, rfl⟩
    obtain ⟨a0, a1, a2, a3⟩ := vote_cells HX5.out
    have f0 : W5.frozen? ⟨X, 1, none⟩ = false := frozen_of_row _ X 1 _ _ HX5.out
    have hgd : W5.grownBy wd (Option.some X) := by rw [hwd]; exact set_grown _ X 1 _
    have hkd : wd.heap[X]? = some (.cells #[.int .i64 t0, .int .i64 x, .int .i64 t2, .int .i64 t3] 54 (0, 0)) := by rw [hwd]; exact heap_setCell_same W5 X 1 _ _ _ HX5.out
    obtain ⟨k0, k1, k2, k3⟩ := vote_cells hkd
    have HSd : Hid (St wd B ao len cap b off) := HS5.out.other hgd (by omega) (fun hl e => by have := HCL.out hl; omega)
    have HGd : Hid (w.grownBy wd (Option.some B)) := grown_two HG5.out (by omega) hgd
    have HEd0 : wd.heap[w.heap.size]? = some (.cells #[.int .i64 0, .int .i64 0, .int .i64 0, .int .i64 0] 54 (0, 0)) := (hgd.block _ (by omega) (fun e => by have := Option.some.inj e; omega)).trans HE5.out
    have HEd : Hid ((W5.setCell ⟨X, 1, none⟩ (.int .i64 x)).heap[w.heap.size]? = some (.cells #[.int .i64 0, .int .i64 0, .int .i64 0, .int .i64 0] 54 (0, 0))) := (by rw [← hwd]; exact HEd0 : (W5.setCell ⟨X, 1, none⟩ (.int .i64 x)).heap[w.heap.size]? = _)
    rw [hwd] at k0 k1 k2 k3
    obtain ⟨⟨p0, p1⟩, ⟨p2, p3⟩, ⟨p4, p5⟩, p6, p7⟩ := HD.out
    clear h1 hgd hkd HEd0
    go_wp2_with (refine wpList_store_blk rfl _ _ _ rfl w.heap.size #[.int .i64 t0, .int .i64 x, .int .i64 t2, .int .i64 t3] rfl rfl 54 #[.int .i64 0, .int .i64 0, .int .i64 0, .int .i64 0] HEd.out (by kernel_rfl) rfl (voteOne _ _ _ _) ?_; intro wg hgg hkg hsg; clear hsg; have HGG : Hid (wd.grownBy wg (Option.some w.heap.size)) := (by rw [hwd]; exact hgg : wd.grownBy wg (Option.some w.heap.size)); obtain ⟨m0, m1, m2, m3⟩ := vote_cells hkg; clear hgg hkg)
    refine bodyPost_ret (v := .agg #[.int .i64 t0, .int .i64 x, .int .i64 t2, .int .i64 t3]) (by simp [results, Try.results70, go_sem, m0, m1, m2, m3]) rfl ?_
    exact ⟨(t0, x, t2, t3), rfl, wfV_of (by omega) (by omega) (by omega) (by omega), HSd.out.other HGG.out (by omega) (fun hl e => by have := HCL.out hl; omega), grown_two HGd.out (Nat.le_refl _) HGG.out⟩
  have e1 : (kk == 1) = false := by simpa using h1
  clear h1
  by_cases h2 : kk = 2
  · have e2 : (kk == 2) = true := by simpa using h2
    obtain ⟨wd, hwd⟩ : ∃ wd, wd = W5.setCell ⟨X, 2, none⟩ (.int .i64 (x % 70 - 1)) := ⟨_, rfl⟩
    obtain ⟨a0, a1, a2, a3⟩ := vote_cells HX5.out
    have f0 : W5.frozen? ⟨X, 2, none⟩ = false := frozen_of_row _ X 2 _ _ HX5.out
    have hgd : W5.grownBy wd (Option.some X) := by rw [hwd]; exact set_grown _ X 2 _
    have hkd : wd.heap[X]? = some (.cells #[.int .i64 t0, .int .i64 t1, .int .i64 (x % 70 - 1), .int .i64 t3] 54 (0, 0)) := by rw [hwd]; exact heap_setCell_same W5 X 2 _ _ _ HX5.out
    obtain ⟨k0, k1, k2, k3⟩ := vote_cells hkd
    have HSd : Hid (St wd B ao len cap b off) := HS5.out.other hgd (by omega) (fun hl e => by have := HCL.out hl; omega)
    have HGd : Hid (w.grownBy wd (Option.some B)) := grown_two HG5.out (by omega) hgd
    have HEd0 : wd.heap[w.heap.size]? = some (.cells #[.int .i64 0, .int .i64 0, .int .i64 0, .int .i64 0] 54 (0, 0)) := (hgd.block _ (by omega) (fun e => by have := Option.some.inj e; omega)).trans HE5.out
    have HEd : Hid ((W5.setCell ⟨X, 2, none⟩ (.int .i64 (x % 70 - 1))).heap[w.heap.size]? = some (.cells #[.int .i64 0, .int .i64 0, .int .i64 0, .int .i64 0] 54 (0, 0))) := (by rw [← hwd]; exact HEd0 : (W5.setCell ⟨X, 2, none⟩ (.int .i64 (x % 70 - 1))).heap[w.heap.size]? = _)
    rw [hwd] at k0 k1 k2 k3
    obtain ⟨⟨p0, p1⟩, ⟨p2, p3⟩, ⟨p4, p5⟩, p6, p7⟩ := HD.out
    clear h2 hgd hkd HEd0
    go_wp2_with (refine wpList_store_blk rfl _ _ _ rfl w.heap.size #[.int .i64 t0, .int .i64 t1, .int .i64 (x % 70 - 1), .int .i64 t3] rfl rfl 54 #[.int .i64 0, .int .i64 0, .int .i64 0, .int .i64 0] HEd.out (by kernel_rfl) rfl (voteOne _ _ _ _) ?_; intro wg hgg hkg hsg; clear hsg; have HGG : Hid (wd.grownBy wg (Option.some w.heap.size)) := (by rw [hwd]; exact hgg : wd.grownBy wg (Option.some w.heap.size)); obtain ⟨m0, m1, m2, m3⟩ := vote_cells hkg; clear hgg hkg)
    refine bodyPost_ret (v := .agg #[.int .i64 t0, .int .i64 t1, .int .i64 (x % 70 - 1), .int .i64 t3]) (by simp [results, Try.results70, go_sem, m0, m1, m2, m3]) rfl ?_
    exact ⟨(t0, t1, x % 70 - 1, t3), rfl, wfV_of (by omega) (by omega) (by omega) (by omega), HSd.out.other HGG.out (by omega) (fun hl e => by have := HCL.out hl; omega), grown_two HGd.out (Nat.le_refl _) HGG.out⟩
  have e2 : (kk == 2) = false := by simpa using h2
  clear h2
  by_cases h3 : kk = 3
  · have e3 : (kk == 3) = true := by simpa using h3
    obtain ⟨wd, hwd⟩ : ∃ wd, wd = W5.setCell ⟨X, 3, none⟩ (.int .i64 (x % 9 - 1)) := ⟨_, rfl⟩
    obtain ⟨a0, a1, a2, a3⟩ := vote_cells HX5.out
    have f0 : W5.frozen? ⟨X, 3, none⟩ = false := frozen_of_row _ X 3 _ _ HX5.out
    have hgd : W5.grownBy wd (Option.some X) := by rw [hwd]; exact set_grown _ X 3 _
    have hkd : wd.heap[X]? = some (.cells #[.int .i64 t0, .int .i64 t1, .int .i64 t2, .int .i64 (x % 9 - 1)] 54 (0, 0)) := by rw [hwd]; exact heap_setCell_same W5 X 3 _ _ _ HX5.out
    obtain ⟨k0, k1, k2, k3⟩ := vote_cells hkd
    have HSd : Hid (St wd B ao len cap b off) := HS5.out.other hgd (by omega) (fun hl e => by have := HCL.out hl; omega)
    have HGd : Hid (w.grownBy wd (Option.some B)) := grown_two HG5.out (by omega) hgd
    have HEd0 : wd.heap[w.heap.size]? = some (.cells #[.int .i64 0, .int .i64 0, .int .i64 0, .int .i64 0] 54 (0, 0)) := (hgd.block _ (by omega) (fun e => by have := Option.some.inj e; omega)).trans HE5.out
    have HEd : Hid ((W5.setCell ⟨X, 3, none⟩ (.int .i64 (x % 9 - 1))).heap[w.heap.size]? = some (.cells #[.int .i64 0, .int .i64 0, .int .i64 0, .int .i64 0] 54 (0, 0))) := (by rw [← hwd]; exact HEd0 : (W5.setCell ⟨X, 3, none⟩ (.int .i64 (x % 9 - 1))).heap[w.heap.size]? = _)
    rw [hwd] at k0 k1 k2 k3
    obtain ⟨⟨p0, p1⟩, ⟨p2, p3⟩, ⟨p4, p5⟩, p6, p7⟩ := HD.out
    clear h3 hgd hkd HEd0
    go_wp2_with (refine wpList_store_blk rfl _ _ _ rfl w.heap.size #[.int .i64 t0, .int .i64 t1, .int .i64 t2, .int .i64 (x % 9 - 1)] rfl rfl 54 #[.int .i64 0, .int .i64 0, .int .i64 0, .int .i64 0] HEd.out (by kernel_rfl) rfl (voteOne _ _ _ _) ?_; intro wg hgg hkg hsg; clear hsg; have HGG : Hid (wd.grownBy wg (Option.some w.heap.size)) := (by rw [hwd]; exact hgg : wd.grownBy wg (Option.some w.heap.size)); obtain ⟨m0, m1, m2, m3⟩ := vote_cells hkg; clear hgg hkg)
    refine bodyPost_ret (v := .agg #[.int .i64 t0, .int .i64 t1, .int .i64 t2, .int .i64 (x % 9 - 1)]) (by simp [results, Try.results70, go_sem, m0, m1, m2, m3]) rfl ?_
    exact ⟨(t0, t1, t2, x % 9 - 1), rfl, wfV_of (by omega) (by omega) (by omega) (by omega), HSd.out.other HGG.out (by omega) (fun hl e => by have := HCL.out hl; omega), grown_two HGd.out (Nat.le_refl _) HGG.out⟩
  have e3 : (kk == 3) = false := by simpa using h3
  clear h3
  obtain ⟨wd, hwd⟩ : ∃ wd, wd = W5 := ⟨_, rfl⟩
  obtain ⟨k0, k1, k2, k3⟩ := vote_cells HX5.out
  have HSd : Hid (St wd B ao len cap b off) := (by rw [hwd]; exact HS5.out : St wd B ao len cap b off)
  have HGd : Hid (w.grownBy wd (Option.some B)) := (by rw [hwd]; exact HG5.out : w.grownBy wd (Option.some B))
  have HEd : Hid (W5.heap[w.heap.size]? = some (.cells #[.int .i64 0, .int .i64 0, .int .i64 0, .int .i64 0] 54 (0, 0))) := HE5.out
  obtain ⟨⟨p0, p1⟩, ⟨p2, p3⟩, ⟨p4, p5⟩, p6, p7⟩ := HD.out
  go_wp2_with (refine wpList_store_blk rfl _ _ _ rfl w.heap.size #[.int .i64 t0, .int .i64 t1, .int .i64 t2, .int .i64 t3] rfl rfl 54 #[.int .i64 0, .int .i64 0, .int .i64 0, .int .i64 0] HEd.out (by kernel_rfl) rfl (voteOne _ _ _ _) ?_; intro wg hgg hkg hsg; clear hsg; have HGG : Hid (wd.grownBy wg (Option.some w.heap.size)) := (by rw [hwd]; exact hgg : wd.grownBy wg (Option.some w.heap.size)); obtain ⟨m0, m1, m2, m3⟩ := vote_cells hkg; clear hgg hkg)
  refine bodyPost_ret (v := .agg #[.int .i64 t0, .int .i64 t1, .int .i64 t2, .int .i64 t3]) (by simp [results, Try.results70, go_sem, m0, m1, m2, m3]) rfl ?_
  exact ⟨(t0, t1, t2, t3), rfl, wfV_of (by omega) (by omega) (by omega) (by omega), HSd.out.other HGG.out (by omega) (fun hl e => by have := HCL.out hl; omega), grown_two HGd.out (Nat.le_refl _) HGG.out⟩

end Go.Proofs.Ytjdddcldbfhbiab
