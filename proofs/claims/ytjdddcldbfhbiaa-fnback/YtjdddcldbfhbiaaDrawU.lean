/-
  The contracts of the specification's draws of what goes back.
-/
import Derived.Test.YtjdddcldbfhbiaaDrawD
import Derived.Test.YtjdddcldbfhbiaaBackS
namespace Go.Proofs.Ytjdddcldbfhbiaa
open Go.RowKit Num

set_option maxRecDepth 100000 in
set_option maxHeartbeats 1000000 in
theorem drawCellAt_any {w : World} {ao : Option Addr} {len cap b off : Nat} (hc : Code w ao len b off) :
    Calls Try.prog 71 #[.slice ao len cap] w fun e w' => ∃ (v : Value) (cs : CL) (key : ByteArray), e = .returned (.tuple #[v, .string key]) ∧ smallL cs 20 ∧ key.size ≤ 4 ∧ w'.ownsRow w.heap.size 35 2 v cs.length (flat cs) ∧ Below w.heap.size w w' := by
  have HC : Hid (Code w ao len b off) := hc
  clear hc
  go_enter Try.func71, Try.ntmps71
  go_wp2_with fail
  refine (new_any HC.out).mono ?_
  rintro e w1 ⟨N, rfl, hN, hS, hb⟩
  have HS : Hid (St w1 N ao len cap b off) := hS
  clear hS
  go_wp2_with fail
  refine (key_st HS.out).mono ?_
  rintro e w2 ⟨k, rfl, hS2, hg2⟩
  have HS2 : Hid (St w2 N ao len cap b off) := hS2
  have hk := dkey_size k
  have B2 : Below w.heap.size w w2 := drawn_below hb hN hg2
  clear hS2 hg2
  go_wp2_with fail
  refine (bent_st HS2.out).mono ?_
  rintro e w3 ⟨v, cs, rfl, hsm, hown, _, hg3⟩
  have HO : Hid (w3.ownsRow w2.heap.size 35 2 v cs.length (flat cs)) := hown
  have HSM : Hid (smallL cs 20) := hsm
  clear hown hsm
  go_wp2
  go_ret2
  exact ⟨v, cs, dkey k, rfl, HSM.out, by omega, own_base HO.out B2.size, drawn_below B2 hN hg3⟩

set_option maxRecDepth 100000 in
theorem drawUndoOf_any {w : World} {ao : Option Addr} {len cap b off : Nat} (hc : Code w ao len b off) :
    Calls Try.prog 23 #[.slice ao len cap] w fun e w' => ∃ (v : Value) (cs : CL) (key : ByteArray), e = .returned (.tuple #[v, .string key]) ∧ smallL cs 20 ∧ key.size ≤ 4 ∧ w'.ownsRow w.heap.size 35 2 v cs.length (flat cs) ∧ Below w.heap.size w w' := by
  have HC : Hid (Code w ao len b off) := hc
  clear hc
  go_enter Try.func23, Try.ntmps23
  go_wp2_with fail
  refine (drawCellAt_any HC.out).mono ?_
  rintro e w1 ⟨v, cs, key, rfl, hsm, hk, hown, hb⟩
  have HO : Hid (w1.ownsRow w.heap.size 35 2 v cs.length (flat cs)) := hown
  have HSM : Hid (smallL cs 20) := hsm
  clear hown hsm
  go_wp2
  go_ret2
  exact ⟨v, cs, key, rfl, HSM.out, hk, HO.out, hb⟩

/-- the numbers that are drawn -/
def unum (k : Nat) : Int := match k with
  | 0 => 0
  | 1 => 5
  | 2 => -1
  | _ => 1000000001

set_option maxRecDepth 100000 in
set_option maxHeartbeats 2000000 in
theorem drawUndone_any {w : World} {ao : Option Addr} {len cap b off : Nat} (hc : Code w ao len b off) :
    Calls Try.prog 22 #[.slice ao len cap] w fun e w' => ∃ (v : Value) (cs : CL) (u : UN), e = .returned (.tuple #[v, undoV u]) ∧ smallL cs 20 ∧ u.1.size ≤ 4 ∧ w'.ownsRow w.heap.size 35 2 v cs.length (flat cs) ∧ Below w.heap.size w w' := by
  have hb0 : Below w.heap.size w (w.alloc (.cells #[.string ByteArray.empty, .bool false, .int .i64 0] 48)) := ba (Below.refl _ _) _
  have HC : Hid (Code (w.alloc (.cells #[.string ByteArray.empty, .bool false, .int .i64 0] 48)) ao len b off) := hc.below hb0
  clear hc
  go_enter Try.func22, Try.ntmps22
  go_wp2_with fail
  refine (new_any HC.out).mono ?_
  rintro e w1 ⟨N, rfl, hN, hS, hb⟩
  have hN' : w.heap.size < N := by simp at hN; omega
  have HS : Hid (St w1 N ao len cap b off) := hS
  have HB1 : Hid (Below w.heap.size w w1) := bt hb0 hb
  have HR1 : Hid (w1.heap[w.heap.size]? = some (.cells #[.string ByteArray.empty, .bool false, .int .i64 0] 48 (0, 0))) := (hb.block _ (by simp)).trans (heap_alloc_new w _)
  have hs1 : w.heap.size < w1.heap.size := (Array.getElem?_eq_some_iff.1 HR1.out).1
  have HNE : Hid (some w.heap.size ≠ some N) := fun e => by have := Option.some.inj e; omega
  clear hS hb hb0
  go_wp2_with fail
  refine (key_st HS.out).mono ?_
  rintro e w2 ⟨k, rfl, hS2, hg2⟩
  have HS2 : Hid (St w2 N ao len cap b off) := hS2
  have hk := dkey_size k
  have HB2 : Hid (Below w.heap.size w w2) := drawn_below HB1.out (by omega) hg2
  have HR2 : Hid (w2.heap[w.heap.size]? = some (.cells #[.string ByteArray.empty, .bool false, .int .i64 0] 48 (0, 0))) := (hg2.block _ hs1 HNE.out).trans HR1.out
  have hs2 : w.heap.size < w2.heap.size := (Array.getElem?_eq_some_iff.1 HR2.out).1
  clear hS2 hg2 HS HR1
  go_wp2_with fail
  refine (once_st 2 (by omega) (by omega) HS2.out).mono ?_
  rintro e w3 ⟨had, rfl, hS3, hg3⟩
  have HS3 : Hid (St w3 N ao len cap b off) := hS3
  have HB3 : Hid (Below w.heap.size w w3) := drawn_below HB2.out (by omega) hg3
  have HR3 : Hid (w3.heap[w.heap.size]? = some (.cells #[.string ByteArray.empty, .bool false, .int .i64 0] 48 (0, 0))) := (hg3.block _ hs2 HNE.out).trans HR2.out
  have hs3 : w.heap.size < w3.heap.size := (Array.getElem?_eq_some_iff.1 HR3.out).1
  clear hS3 hg3 HS2 HR2
  go_wp2_with fail
  have hb3 : Below w3.heap.size w3 (w3.alloc (.cells #[.int .i64 0, .int .i64 5, .int .i64 (-1), .int .i64 1000000001] 3)) := (Below.refl _ _).alloc (Nat.le_refl _) _
  refine (pickI_st unum 4 (by omega) (by omega) (HS3.out.below hb3) (by have := HS3.out.cur.lt; omega) (by simp) (fun j hj => ?_)).mono ?_
  · rw [cell_of_row _ w3.heap.size j _ _ (0, 0) (heap_alloc_new w3 _)]
    match j, hj with
    | 0, _ => rfl
    | 1, _ => rfl
    | 2, _ => rfl
    | 3, _ => rfl
  rintro e w4 ⟨j, _, rfl, hS4, hg4⟩
  have HS4 : Hid (St w4 N ao len cap b off) := hS4
  have HB4 : Hid (Below w.heap.size w w4) := drawn_below (bt HB3.out hb3) (by omega) hg4
  have HR4 : Hid (w4.heap[w.heap.size]? = some (.cells #[.string ByteArray.empty, .bool false, .int .i64 0] 48 (0, 0))) := (hg4.block _ (by simp; omega) HNE.out).trans ((hb3.block _ hs3).trans HR3.out)
  have hs4 : w.heap.size < w4.heap.size := (Array.getElem?_eq_some_iff.1 HR4.out).1
  clear hS4 hg4 HS3 HR3 hb3
  go_wp2_with fail
  refine (bent_st HS4.out).mono ?_
  rintro e w5 ⟨v5, cs, rfl, hsm, hown5, hS5, hg5⟩
  have HO5 : Hid (w5.ownsRow w4.heap.size 35 2 v5 cs.length (flat cs)) := hown5
  have HSM : Hid (smallL cs 20) := hsm
  have HB5 : Hid (Below w.heap.size w w5) := drawn_below HB4.out (by omega) hg5
  have HR5 : Hid (w5.heap[w.heap.size]? = some (.cells #[.string ByteArray.empty, .bool false, .int .i64 0] 48 (0, 0))) := (hg5.block _ hs4 HNE.out).trans HR4.out
  clear hown5 hsm hg5 hS5 HS4 HR4
  obtain ⟨⟨x0, f0⟩, ⟨x1, f1⟩, ⟨x2, f2⟩, hk7, hg7⟩ := blk_three HR5.out (.string (dkey k)) (.bool had) (.int .i64 (unum j))
  have y0 := cell_of_row _ w.heap.size 0 _ _ (0, 0) hk7
  have y1 := cell_of_row _ w.heap.size 1 _ _ (0, 0) hk7
  have y2 := cell_of_row _ w.heap.size 2 _ _ (0, 0) hk7
  have HG7 : Hid (World.grownBy w5 _ (some w.heap.size)) := hg7
  clear hk7 hg7
  go_wp2
  refine bodyPost_ret (v := .tuple #[v5, .agg #[.string (dkey k), .bool had, .int .i64 (unum j)]]) (by simp [results, Try.results22, go_sem, y0, y1, y2]) rfl ?_
  exact ⟨v5, cs, (dkey k, had, unum j), rfl, HSM.out, by simp only; omega, own_base (World.ownsRow.kept HO5.out HG7.out (own_far HO5.out (by omega))) (by omega), HB5.out.grown HG7.out HB5.out.size fun k hk => by cases hk; exact Nat.le_refl _⟩

set_option maxRecDepth 100000 in
set_option maxHeartbeats 2000000 in
theorem drawDoneAll_any {w : World} {ao : Option Addr} {len cap b off : Nat} (hc : Code w ao len b off) :
    Calls Try.prog 72 #[.slice ao len cap] w fun e w' => ∃ (v u : Value) (cs : CL) (l : List CM), e = .returned (.tuple #[v, u]) ∧ smallL cs 20 ∧ l.length ≤ 6 ∧ (∀ c ∈ l, c.2.1.size ≤ 4) ∧ w'.ownsRow w.heap.size 35 2 v cs.length (flat cs) ∧ w'.ownsRow w.heap.size 29 3 u l.length (flatR cmdF l) ∧ Below w.heap.size w w' := by
  have HC : Hid (Code w ao len b off) := hc
  obtain ⟨i0, hi, hz0, hz1, hz2⟩ := info_parts infoCm
  clear hc
  go_enter Try.func72, Try.ntmps72
  go_wp2_with fail
  refine (new_any HC.out).mono ?_
  rintro e w1 ⟨N, rfl, hN, hS, hb⟩
  have HS : Hid (St w1 N ao len cap b off) := hS
  have HB1 : Hid (Below w.heap.size w w1) := hb
  have hNw1 : N < w1.heap.size := hS.cur.lt
  clear hS
  go_wp2_with fail
  refine (cmds_st HS.out).mono ?_
  rintro e w2 ⟨u2, l, rfl, hl2, hall2, hown2, hS2, hg2⟩
  have HS2 : Hid (St w2 N ao len cap b off) := hS2
  have HA2 : Hid (∀ c ∈ l, c.2.1.size ≤ 4) := fun c hc => by have := (hall2 c hc).2; omega
  have HB2 : Hid (Below w.heap.size w w2) := drawn_below HB1.out hN hg2
  have hs12 := hg2.size
  have HO2 : Hid (w2.ownsRow w1.heap.size 29 3 u2 l.length (flatR cmdF l)) := hown2
  clear hall2 hown2 hS2 hg2 HS
  go_wp2_with fail
  refine (once_st 6 (by omega) (by omega) HS2.out).mono ?_
  rintro e w3 ⟨on, rfl, hS3, hg3⟩
  have HS3 : Hid (St w3 N ao len cap b off) := hS3
  have HB3 : Hid (Below w.heap.size w w3) := drawn_below HB2.out hN hg3
  have HO3 : Hid (w3.ownsRow w1.heap.size 29 3 u2 l.length (flatR cmdF l)) := World.ownsRow.kept HO2.out hg3 (own_far HO2.out hNw1)
  have hs1 := HB1.out.size
  have hs13 : w1.heap.size ≤ w3.heap.size := Nat.le_trans hs12 hg3.size
  clear hS3 hg3 HS2 HO2
  cases on with
  | false =>
    go_wp2_with fail
    refine (bent_st HS3.out).mono ?_
    rintro e w5 ⟨v5, cs, rfl, hsm, hown5, hS5, hg5⟩
    have HO5 : Hid (w5.ownsRow w3.heap.size 35 2 v5 cs.length (flat cs)) := hown5
    have HQ5 : Hid (w5.ownsRow w1.heap.size 29 3 u2 l.length (flatR cmdF l)) := World.ownsRow.kept HO3.out hg5 (own_far HO3.out hNw1)
    have HSM : Hid (smallL cs 20) := hsm
    have HB5 : Hid (Below w.heap.size w w5) := drawn_below HB3.out hN hg5
    have hs3 := HB3.out.size
    clear hown5 hsm hg5 hS5
    go_wp2
    go_ret2
    exact ⟨v5, u2, cs, l, rfl, HSM.out, by omega, HA2.out, own_base HO5.out hs3, own_base HQ5.out hs1, HB5.out⟩
  | true =>
    go_wp2_with fail
    refine (any_st HS3.out).mono ?_
    rintro e w4 ⟨c, rfl, hsz, hS4, hg4⟩
    have HS4 : Hid (St w4 N ao len cap b off) := hS4
    have HB4 : Hid (Below w.heap.size w w4) := drawn_below HB3.out hN hg4
    have HO4 : Hid (w4.ownsRow w1.heap.size 29 3 u2 l.length (flatR cmdF l)) := World.ownsRow.kept HO3.out hg4 (own_far HO3.out hNw1)
    have hbd : 0 < len → b < w.heap.size := HC.out.lt
    have hs4 : w1.heap.size ≤ w4.heap.size := Nat.le_trans hs13 hg4.size
    unfold cmdV
    clear hS4 hg4 HS3 HO3
    go_wp2_with (at_builtin; refine wpList_append_own _ rfl _ _ 26 rfl w1.heap.size 29 i0 _ 3 32 Try.underlying26 hi hz0 hz1 hz2 rfl (by decide) _ _ _ rfl (World.ownsRow.alloc HO4.out _) ⟨World.heap _ |>.size, 0, none⟩ 1 1 (cmdF c) rfl rfl (news3 _ c _) (ones3 c) (by unfold maxLen; omega) (by omega) (by simp; omega) ?_; intro u5 w5 hown5 hgrow5 _; have HS5 : Hid (St w5 N ao len cap b off) := (HS4.out.below (ba (Below.refl _ _) _)).row hgrow5 (fun g hg => by have := (HO4.out.lt g hg).1; omega) (fun hl g hg => by have := (HO4.out.lt g hg).1; have := hbd hl; omega); have HO5 : Hid (w5.ownsRow w1.heap.size 29 3 u5 (l.length + 1) (flatR cmdF l ++ cmdF c)) := hown5; have HB5 : Hid (Below w.heap.size w w5) := (ba HB4.out _).grown hgrow5 (by simp; omega) (fun x hx => Nat.le_trans hs1 (HO4.out.lt x hx).1); clear hown5 hgrow5)
    refine (bent_st HS5.out).mono ?_
    rintro e w6 ⟨v6, cs, rfl, hsm, hown6, hS6, hg6⟩
    have HO6 : Hid (w6.ownsRow w5.heap.size 35 2 v6 cs.length (flat cs)) := hown6
    have HQ6 : Hid (w6.ownsRow w1.heap.size 29 3 u5 (l.length + 1) (flatR cmdF l ++ cmdF c)) := World.ownsRow.kept HO5.out hg6 (own_far HO5.out hNw1)
    have HSM : Hid (smallL cs 20) := hsm
    have HB6 : Hid (Below w.heap.size w w6) := drawn_below HB5.out hN hg6
    have hs5 := HB5.out.size
    clear hown6 hsm hg6 hS6
    go_wp2
    go_ret2
    refine ⟨v6, u5, cs, l ++ [c], rfl, HSM.out, by simp; omega, all_snoc HA2.out hsz, own_base HO6.out hs5, ?_, HB6.out⟩
    rw [List.length_append, flatR_append]
    have e1 : flatR cmdF [c] = cmdF c := by simp [flatR]
    rw [e1]
    exact own_base HQ6.out hs1

set_option maxRecDepth 100000 in
set_option maxHeartbeats 1000000 in
theorem drawUndoneAll_any {w : World} {ao : Option Addr} {len cap b off : Nat} (hc : Code w ao len b off) :
    Calls Try.prog 24 #[.slice ao len cap] w fun e w' => ∃ (v u : Value) (cs : CL) (us : List UN), e = .returned (.tuple #[v, u]) ∧ okL cs ∧ us.length ≤ 6 ∧ (∀ x ∈ us, (x.1.size : Int) ≤ 1048576) ∧ Cells w' v cs ∧ RowsR w' u 3 undoF us ∧ Below w.heap.size w w' := by
  have HC : Hid (Code w ao len b off) := hc
  clear hc
  go_enter Try.func24, Try.ntmps24
  go_wp2_with fail
  refine (drawDoneAll_any HC.out).mono ?_
  rintro e w1 ⟨v1, u1, cs, l, rfl, hsm, hl, hall, hown1, hrow1, hb1⟩
  have HSM : Hid (okL cs) := smallL_ok hsm (by omega)
  have HA : Hid (∀ c ∈ l, (c.2.1.size : Int) ≤ 1048576) := fun c hc => by have := hall c hc; omega
  have HV1 : Hid (Cells w1 v1 cs) := cells_of_own hown1
  have HU1 : Hid (RowsR w1 u1 3 cmdF l) := rows_of_own cmdF_len hrow1
  clear hsm hall hown1 hrow1
  go_wp2_with fail
  refine (doneBack_s cs l v1 u1 w1 HV1.out HU1.out HSM.out (by omega) HA.out).mono ?_
  rintro e w2 ⟨v2, u2, rfl, hown2, hrow2, _, hb2⟩
  have HV2 : Hid (Cells w2 v2 (doneAllC cs l)) := cells_of_own hown2
  have HU2 : Hid (RowsR w2 u2 3 undoF (undosC cs l)) := rows_of_own undoF_len hrow2
  have B2 := bt hb1 hb2
  clear hown2 hrow2 hb2
  go_wp2
  go_ret2
  exact ⟨v2, u2, doneAllC cs l, undosC cs l, rfl, okL_all l HSM.out HA.out, by rw [undosC_len]; exact hl, undos_keys cs l HA.out, HV2.out, HU2.out, B2⟩

end Go.Proofs.Ytjdddcldbfhbiaa
