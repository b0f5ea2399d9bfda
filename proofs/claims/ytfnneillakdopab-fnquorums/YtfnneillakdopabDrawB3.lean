/-
  What the law of trees draws: a tree, and places.
-/
import Derived.Test.YtfnneillakdopabDrawB2
namespace Go.Proofs.Ytfnneillakdopab
open Go.RowKit Num

set_option maxRecDepth 100000 in
theorem drawTree_any {w : World} {ao : Option Addr} {len cap b off : Nat} (hc : Code w ao len b off) :
    Calls Try.prog 9 #[.slice ao len cap] w fun e w' => ∃ (v : Value) (qs : TL), e = .returned v ∧ Drw (bks qs) 9 ∧ OwnT w' w.heap.size v qs ∧ Below w.heap.size w w' := by
  have HC : Hid (Code w ao len b off) := hc
  clear hc
  go_enter Try.func9, Try.ntmps9
  go_wp2_with fail
  refine (new_any HC.out).mono ?_
  rintro e w1 ⟨N, rfl, hN, hS, hb⟩
  have HS : Hid (St w1 N ao len cap b off) := hS
  clear hS
  go_wp2_with fail
  refine (drawn_st HS.out).mono ?_
  rintro e w2 ⟨v, qs, rfl, hd, hown, _, hg⟩
  have HO : Hid (OwnT w2 w1.heap.size v qs) := hown
  have HD : Hid (Drw (bks qs) 9) := hd
  clear hown hd
  go_wp2
  go_ret
  exact ⟨v, qs, rfl, HD.out, HO.out.base hb.size, drawn_below hb hN hg⟩


theorem infoI1 : (Try.prog.info? 3).map (fun i => (i.zero, i.size, i.bytes)) = some (some (.int .i64 0), 1, 8) := by kernel_rfl
theorem newsI (W : World) (x : Int) (t : TypeId) : ∀ j u, ([Value.int .i64 x] : List Value)[j]? = some u → (W.alloc (.cells #[.int .i64 x] t)).cell? ((⟨W.heap.size, 0, none⟩ : Addr).add j) = some u := by
  intro j u hj
  have hp : (⟨W.heap.size, 0, none⟩ : Addr).add j = ⟨W.heap.size, j, none⟩ := by unfold Addr.add; split <;> simp_all
  rw [hp, cell_of_row _ W.heap.size j _ _ (0, 0) (heap_alloc_new W _), ← hj]
  simp
theorem onesI (x : Int) : ∀ u ∈ ([Value.int .i64 x] : List Value), u.oneCell' = true := by
  intro u hu; simp at hu; subst hu; rfl
set_option maxRecDepth 100000 in
set_option maxHeartbeats 1000000 in
theorem drawPlaces_any {w : World} {ao : Option Addr} {len cap b off : Nat} (hc : Code w ao len b off) :
    Calls Try.prog 10 #[.slice ao len cap] w fun e w' => ∃ (v : Value) (l : List Int), e = .returned v ∧ l.length = 12 ∧ (∀ x ∈ l, 0 ≤ x ∧ x < 10000) ∧ w'.ownsRow w.heap.size 3 1 v l.length (flatR intF l) ∧ Below w.heap.size w w' := by
  have HC : Hid (Code w ao len b off) := hc
  obtain ⟨i0, hi, hz0, hz1, hz2⟩ := info_parts infoI1
  clear hc
  go_enter Try.func10, Try.ntmps10
  go_wp2_with fail
  refine (new_any HC.out).mono ?_
  rintro e w1 ⟨N, rfl, hN, hS, hb1⟩
  have HS1 : Hid (St w1 N ao len cap b off) := hS
  have HB1 : Hid (Below w.heap.size w w1) := hb1
  have hN1 := hS.cur.lt
  clear hS hb1
  go_wp2_with fail
  refine (byte_st HS1.out).mono ?_
  rintro e w2 ⟨x, rfl, _, _, hS, hg⟩
  have HS2 : Hid (St w2 N ao len cap b off) := hS
  have HG2 : Hid (w1.grownBy w2 (Option.some N)) := hg
  have hs2 := hg.size
  clear hS hg
  go_wp2
  go_loopw [4, 5] (fun o i wr => ∃ l : List Int, l.length ≤ 12 ∧ i = .int .i64 (l.length : Int) ∧ Hid (∀ x ∈ l, 0 ≤ x ∧ x < 10000) ∧ Hid (wr.ownsRow w2.heap.size 3 1 o l.length (flatR intF l)) ∧ Hid (St wr N ao len cap b off) ∧ Hid (w1.grownBy wr (Option.some N)) ∧ w2.heap.size ≤ wr.heap.size) (fun _ i _ => 12 - (intOf i).toNat)
  case atStart =>
    have hb : Below w2.heap.size w2 (w2.alloc (.cells #[] 3)) := (Below.refl _ _).alloc (Nat.le_refl _) _
    exact ⟨[], by simp, rfl, fun c hc => (by cases hc), own_new w2 3 1, HS2.out.below hb, grown_tr HG2.out (grown_none hb), hb.size⟩
  case round =>
    obtain ⟨l, hl, rfl, HL, HO, HS, HG, hsr⟩ := hrel
    by_cases hlt : (l.length : Int) < 12
    · go_wp2_with fail
      refine (below_st 10000 (by omega) (by omega) HS.out).mono ?_
      rintro e w3 ⟨y, rfl, hy0, hy1, hS3, hg3⟩
      have HS3 : Hid (St w3 N ao len cap b off) := hS3
      have HO3 : Hid (w3.ownsRow w2.heap.size 3 1 u4 l.length (flatR intF l)) := World.ownsRow.kept HO.out hg3 (own_far HO.out (by omega))
      have HG3 : Hid (w1.grownBy w3 (Option.some N)) := grown_tr HG.out hg3
      have hs3 := hg3.size
      have HY : Hid (0 ≤ y ∧ y < 10000) := ⟨hy0, hy1⟩
      clear hS3 hg3
      go_wp2_with (at_builtin; refine wpList_append_own _ rfl _ _ 26 rfl w2.heap.size 3 i0 _ 1 8 Try.underlying26 hi hz0 hz1 hz2 rfl (by decide) _ _ _ rfl (World.ownsRow.alloc HO3.out _) ⟨World.heap _ |>.size, 0, none⟩ 1 1 [.int .i64 y] rfl rfl (newsI _ y _) (onesI y) (by unfold maxLen; omega) (by omega) (by simp; omega) ?_; intro v4 w4 hown4 hgrow4 _)
      have HO4 : Hid (w4.ownsRow w2.heap.size 3 1 v4 (l.length + 1) (flatR intF l ++ [.int .i64 y])) := hown4
      have HS4 : Hid (St w4 N ao len cap b off) := ((HS3.out.below ((Below.refl _ _).alloc (Nat.le_refl _) _)).row hgrow4 (fun g hg => by have := (HO3.out.lt g hg).1; omega) (fun hl => by have := HS2.out.code.lt hl; intro g hg; have := (HO3.out.lt g hg).1; omega))
      have HG4 : Hid (w1.grownBy w4 (Option.some N)) := grown_row HG3.out ((Below.refl _ _).alloc (Nat.le_refl _) _) hgrow4 (fun g hg => by have := (HO3.out.lt g hg).1; omega)
      have hs4 := hgrow4.size
      simp at hs4
      clear hown4 hgrow4
      go_roundw
      case rel => exact ⟨l ++ [y], by simp; omega, by simp, all_snoc HL.out HY.out, (by rw [flatR_append, List.length_append]; exact HO4.out), HS4.out, HG4.out, by omega⟩
      case measure => simp [intOf]; omega
    · have hll : l.length = 12 := by omega
      have HLL : Hid (l.length = 12) := hll
      have hs1 := HB1.out.size
      clear hll
      go_wp2
      go_ret
      exact ⟨_, rfl, l, HLL.out, HL.out, own_base HO.out (by omega), drawn_below HB1.out hN HG.out⟩

end Go.Proofs.Ytfnneillakdopab
