/-
  What the laws of who stands on whom draw: a tree right or not and two places, two rows of numbers.
-/
import Derived.Test.YtjdddcldbfhbiabDrawB5
import Derived.Test.YtjdddcldbfhbiabRowS
namespace Go.Proofs.Ytjdddcldbfhbiab
open Go.RowKit Num

set_option maxRecDepth 100000 in
set_option maxHeartbeats 1000000 in
theorem place_st {w : World} {B : Nat} {ao : Option Addr} {len cap b off : Nat} (n : Int) (hn : 0 < n) (hn2 : n ≤ 1000) (h : St w B ao len cap b off) :
    Calls Try.prog 74 #[.pointer (Option.some ⟨B, 0, none⟩), .int .i64 n] w fun e w' => ∃ x : Int, e = .returned (.int .i64 x) ∧ St w' B ao len cap b off ∧ w.grownBy w' (Option.some B) := by
  have H : Hid (St w B ao len cap b off) := h
  clear h
  go_enter Try.func74, Try.ntmps74
  go_wp2_with fail
  refine (once_st 15 (by omega) (by omega) H.out).mono ?_
  rintro e w1 ⟨x, rfl, hS, hg⟩
  have HS1 : Hid (St w1 B ao len cap b off) := hS
  have HG1 : Hid (w.grownBy w1 (Option.some B)) := hg
  have hB1 := hS.cur.lt
  clear hS hg
  cases x with
  | true =>
    have hb : Below w1.heap.size w1 (w1.alloc (.cells #[.int .i64 (-1), .int .i64 n, .int .i64 (n + 1), .int .i64 9223372036854775807, .int .i64 (-9223372036854775808)] 3)) := (Below.refl _ _).alloc (Nat.le_refl _) _
    have HB : Hid (Below w1.heap.size w1 (w1.alloc (.cells #[.int .i64 (-1), .int .i64 n, .int .i64 (n + 1), .int .i64 9223372036854775807, .int .i64 (-9223372036854775808)] 3))) := hb
    clear hb
    go_wp2_with fail
    refine (pick_st 5 (by omega) (by omega) (HS1.out.below HB.out) (by omega) (by simp) (fun j hj => ?_)).mono ?_
    · rw [cell_of_row _ w1.heap.size j _ _ (0, 0) (heap_alloc_new w1 _)]
      match j, hj with
      | 0, _ => exact ⟨_, rfl⟩
      | 1, _ => exact ⟨_, rfl⟩
      | 2, _ => exact ⟨_, rfl⟩
      | 3, _ => exact ⟨_, rfl⟩
      | 4, _ => exact ⟨_, rfl⟩
    rintro e w2 ⟨y, rfl, hS, hg⟩
    have HS2 : Hid (St w2 B ao len cap b off) := hS
    have HG2 : Hid (w.grownBy w2 (Option.some B)) := grown_tr HG1.out (grown_tr (grown_none HB.out) hg)
    clear hS hg
    go_wp2
    go_ret
    exact ⟨_, rfl, HS2.out, HG2.out⟩
  | false =>
    go_wp2_with fail
    refine (below_st n hn (by omega) HS1.out).mono ?_
    rintro e w2 ⟨y, rfl, _, _, hS, hg⟩
    have HS2 : Hid (St w2 B ao len cap b off) := hS
    have HG2 : Hid (w.grownBy w2 (Option.some B)) := grown_tr HG1.out hg
    clear hS hg
    go_wp2
    go_ret
    exact ⟨_, rfl, HS2.out, HG2.out⟩

/-- a tree that can be read, and two places -/
def PlaceR (w : World) (e : Ending) (w' : World) : Prop := ∃ (v : Value) (qs : TL) (x y : Int), e = .returned (.tuple #[v, .int .i64 x, .int .i64 y]) ∧ BT (bks qs) 10 ∧ OwnU w' w.heap.size v qs ∧ Below w.heap.size w w'
/-- two rows of numbers -/
def BeginR (w : World) (e : Ending) (w' : World) : Prop := ∃ (v1 v2 : Value) (l1 l2 : List Int), e = .returned (.tuple #[v1, v2]) ∧ l1.length ≤ 100 ∧ l2.length ≤ 100 ∧ w'.ownsRow w.heap.size 3 1 v1 l1.length (flatR intF l1) ∧ w'.ownsRow w.heap.size 3 1 v2 l2.length (flatR intF l2) ∧ Below w.heap.size w w'

set_option maxRecDepth 100000 in
set_option maxHeartbeats 1000000 in
theorem place6_any {w : World} {ao : Option Addr} {len cap b off : Nat} (hc : Code w ao len b off) :
    Calls Try.prog 59 #[.slice ao len cap] w fun e w' => PlaceR w e w' := by
  have HC : Hid (Code w ao len b off) := hc
  clear hc
  go_enter Try.func59, Try.ntmps59
  go_wp2_with fail
  refine (new_any HC.out).mono ?_
  rintro e w1 ⟨N, rfl, hN, hS, hb⟩
  have HS1 : Hid (St w1 N ao len cap b off) := hS
  have HB1 : Hid (Below w.heap.size w w1) := hb
  clear hS hb
  go_wp2_with fail
  refine (place_st 8 (by omega) (by omega) HS1.out).mono ?_
  rintro e w2 ⟨x, rfl, hS, hg⟩
  have HS2 : Hid (St w2 N ao len cap b off) := hS
  have HG2 : Hid (w1.grownBy w2 (Option.some N)) := hg
  clear hS hg
  go_wp2_with fail
  refine (place_st 8 (by omega) (by omega) HS2.out).mono ?_
  rintro e w3 ⟨y, rfl, hS, hg⟩
  have HS3 : Hid (St w3 N ao len cap b off) := hS
  have HG3 : Hid (w1.grownBy w3 (Option.some N)) := grown_tr HG2.out hg
  clear hS hg
  go_wp2_with fail
  refine (any5_st HS3.out).mono ?_
  rintro e w4 ⟨v, qs, rfl, hd, hown, _, hg⟩
  have HO : Hid (OwnU w4 w3.heap.size v qs) := hown
  have HD : Hid (BT (bks qs) 10) := hd
  have HG4 : Hid (w1.grownBy w4 (Option.some N)) := grown_tr HG3.out hg
  have hs3 := HG3.out.size
  have hs1 := HB1.out.size
  clear hown hd hg
  go_wp2
  refine bodyPost_ret (v := .tuple #[v, .int .i64 x, .int .i64 y]) (by simp [results, Try.results59, go_sem]) rfl ?_
  unfold PlaceR
  exact ⟨v, qs, x, y, rfl, HD.out, HO.out.base (by omega), drawn_below HB1.out hN HG4.out⟩

set_option maxRecDepth 100000 in
theorem drawExtends_any {w : World} {ao : Option Addr} {len cap b off : Nat} (hc : Code w ao len b off) :
    Calls Try.prog 17 #[.slice ao len cap] w fun e w' => PlaceR w e w' := by
  have HC : Hid (Code w ao len b off) := hc
  clear hc
  go_enter Try.func17, Try.ntmps17
  go_wp2_with fail
  refine (place6_any HC.out).mono ?_
  rintro e w1 ⟨v, qs, x, y, rfl, hd, hown, hb⟩
  have HO : Hid (OwnU w1 w.heap.size v qs) := hown
  have HD : Hid (BT (bks qs) 10) := hd
  clear hown hd
  go_wp2
  refine bodyPost_ret (v := .tuple #[v, .int .i64 x, .int .i64 y]) (by simp [results, Try.results17, go_sem]) rfl ?_
  unfold PlaceR
  exact ⟨v, qs, x, y, rfl, HD.out, HO.out, hb⟩

set_option maxRecDepth 100000 in
set_option maxHeartbeats 2000000 in
theorem drawBegin_any {w : World} {ao : Option Addr} {len cap b off : Nat} (hc : Code w ao len b off) :
    Calls Try.prog 18 #[.slice ao len cap] w fun e w' => BeginR w e w' := by
  have HC : Hid (Code w ao len b off) := hc
  obtain ⟨i0, hi, hz0, hz1, hz2⟩ := info_parts infoInt1
  clear hc
  go_enter Try.func18, Try.ntmps18
  go_wp2_with fail
  refine (new_any HC.out).mono ?_
  rintro e w1 ⟨N, rfl, hN, hS, hb⟩
  have HS1 : Hid (St w1 N ao len cap b off) := hS
  have HB1 : Hid (Below w.heap.size w w1) := hb
  have hN1 := hS.cur.lt
  have hs1 := hb.size
  clear hS hb
  go_wp2
  go_loopw [5, 6] (fun o i wr => ∃ l : List Int, l.length ≤ 6 ∧ i = .int .i64 (l.length : Int) ∧ Hid (wr.ownsRow w1.heap.size 3 1 o l.length (flatR intF l)) ∧ Hid (St wr N ao len cap b off) ∧ Hid (w1.grownBy wr (Option.some N)) ∧ w1.heap.size ≤ wr.heap.size) (fun _ i _ => 6 - (intOf i).toNat)
  case atStart =>
    have hb : Below w1.heap.size w1 (w1.alloc (.cells #[] 3)) := (Below.refl _ _).alloc (Nat.le_refl _) _
    exact ⟨[], by simp, rfl, own_new w1 3 1, HS1.out.below hb, grown_none hb, hb.size⟩
  case round =>
    obtain ⟨l, hl, rfl, HO, HS, HG, hsr⟩ := hrel
    go_wp2_with fail
    refine (below_st 6 (by omega) (by omega) HS.out).mono ?_
    rintro e w2 ⟨z, rfl, hz0', hz1', hS, hg⟩
    have HS2 : Hid (St w2 N ao len cap b off) := hS
    have HO2 : Hid (w2.ownsRow w1.heap.size 3 1 u5 l.length (flatR intF l)) := World.ownsRow.kept HO.out hg (own_far HO.out (by omega))
    have HG2 : Hid (w1.grownBy w2 (Option.some N)) := grown_tr HG.out hg
    have hs2 := hg.size
    clear hS hg
    by_cases hlt : (l.length : Int) < z
    · go_wp2_with fail
      refine (below_st 5 (by omega) (by omega) HS2.out).mono ?_
      rintro e w3 ⟨y, rfl, _, _, hS, hg⟩
      have HS3 : Hid (St w3 N ao len cap b off) := hS
      have HO3 : Hid (w3.ownsRow w1.heap.size 3 1 u5 l.length (flatR intF l)) := World.ownsRow.kept HO2.out hg (own_far HO2.out (by omega))
      have HG3 : Hid (w1.grownBy w3 (Option.some N)) := grown_tr HG2.out hg
      have hs3 := hg.size
      clear hS hg
      go_wp2_with (at_builtin; refine wpList_append_own _ rfl _ _ 26 rfl w1.heap.size 3 i0 _ 1 8 Try.underlying26 hi hz0 hz1 hz2 rfl (by decide) _ _ _ rfl (World.ownsRow.alloc HO3.out _) ⟨World.heap _ |>.size, 0, none⟩ 1 1 [.int .i64 y] rfl rfl (news1 _ _ _) (ones1 _ _) (by unfold maxLen; omega) (by omega) (by simp; omega) ?_; intro v4 w4 hown4 hgrow4 _)
      have HO4 : Hid (w4.ownsRow w1.heap.size 3 1 v4 (l.length + 1) (flatR intF l ++ [.int .i64 y])) := hown4
      have HS4 : Hid (St w4 N ao len cap b off) := ((HS3.out.below ((Below.refl _ _).alloc (Nat.le_refl _) _)).row hgrow4 (fun g hg => by have := (HO3.out.lt g hg).1; omega) (fun hl => by have := HS1.out.code.lt hl; intro g hg; have := (HO3.out.lt g hg).1; omega))
      have HG4 : Hid (w1.grownBy w4 (Option.some N)) := grown_row HG3.out ((Below.refl _ _).alloc (Nat.le_refl _) _) hgrow4 (fun g hg => (HO3.out.lt g hg).1)
      have hs4 := hgrow4.size
      simp at hs4
      clear hown4 hgrow4
      go_roundw
      case rel => exact ⟨l ++ [y], by simp; omega, by simp, (by rw [flatR_append, List.length_append]; exact HO4.out), HS4.out, HG4.out, by omega⟩
      case measure => simp [intOf]; omega
    · obtain ⟨ao5, co5, e5, hg5⟩ := own_form HO2.out
      subst e5
      have hcap := capOk_own HO2.out _ _ _ rfl
      have HBx : Hid (Below w2.heap.size w2 (w2.alloc (.cells #[] 3))) := (Below.refl _ _).alloc (Nat.le_refl _) _
      clear hg5
      go_wp2_with fail
      clear hlt hz0' hz1'
      refine (below_st ((l.length : Int) + 1) (by omega) (by omega) (HS2.out.below HBx.out)).mono ?_
      rintro e w3 ⟨z, rfl, hy0, hy1, hS, hg⟩
      obtain ⟨m, rfl⟩ := Int.eq_ofNat_of_zero_le hy0
      have hml : m ≤ l.length := by omega
      have q1 : (m : Int) ≤ (co5 : Int) := by omega
      have HS3 : Hid (St w3 N ao len cap b off) := hS
      have hs3 := hg.size
      simp at hs3
      have HO3 : Hid (w3.ownsRow w1.heap.size 3 1 (.slice ao5 l.length co5) l.length (flatR intF l)) := World.ownsRow.kept (own_kept HO2.out HBx.out) hg (own_far HO2.out (by omega))
      have HE3 : Hid (w3.ownsRow w2.heap.size 3 1 (.slice (some ⟨w2.heap.size, 0, none⟩) 0 0) ([] : List Int).length (flatR intF [])) := World.ownsRow.kept (own_new w2 3 1) hg (own_far (own_new w2 3 1) (by omega))
      have HG3 : Hid (w1.grownBy w3 (Option.some N)) := grown_tr (grown_tr HG2.out (grown_none HBx.out)) hg
      have HR3 : Hid (RowsR w3 (.slice ao5 m co5) 1 intF (l.take m)) := (rows_of_own intF_len HO3.out).take m hml co5
      have htl : (l.take m).length = m := by rw [List.length_take]; omega
      have HTL : Hid ((l.take m).length = m) := htl
      clear hS hg hy0 hy1 htl
      go_wp2_with (at_builtin; refine wpList_append_rows _ rfl _ _ 26 rfl w2.heap.size 3 i0 _ 8 Try.underlying26 hi hz0 hz1 hz2 rfl (by decide) intF_len intF_one _ [] rfl HE3.out _ (l.take m) rfl HR3.out (by have := HTL.out; simp; unfold maxLen; omega) (by have := HTL.out; simp; omega) (by omega) ?_; intro v4 w4 hown4 hgrow4)
      rw [List.nil_append] at hown4
      have HV4 : Hid (w4.ownsRow w2.heap.size 3 1 v4 (l.take m).length (flatR intF (l.take m))) := hown4
      have HO4 : Hid (w4.ownsRow w1.heap.size 3 1 (.slice ao5 l.length co5) l.length (flatR intF l)) := World.ownsRow.kept HO3.out hgrow4 (own_ne' HO2.out HE3.out (Nat.le_refl _))
      have HS4 : Hid (St w4 N ao len cap b off) := HS3.out.row hgrow4 (fun g hg => by have := (HE3.out.lt g hg).1; omega) (fun hl => by have := HS1.out.code.lt hl; intro g hg; have := (HE3.out.lt g hg).1; omega)
      have HG4 : Hid (w1.grownBy w4 (Option.some N)) := grown_row HG3.out (Below.refl _ _) hgrow4 (fun g hg => by have := (HE3.out.lt g hg).1; omega)
      have hs4 := hgrow4.size
      clear hown4 hgrow4
      refine (once_st 3 (by omega) (by omega) HS4.out).mono ?_
      rintro e w5 ⟨y, rfl, hS, hg⟩
      have HV5 : Hid (w5.ownsRow w2.heap.size 3 1 v4 (l.take m).length (flatR intF (l.take m))) := World.ownsRow.kept HV4.out hg (own_far HV4.out (by omega))
      have HO5 : Hid (w5.ownsRow w1.heap.size 3 1 (.slice ao5 l.length co5) l.length (flatR intF l)) := World.ownsRow.kept HO4.out hg (own_far HO4.out (by omega))
      have HG5 : Hid (w1.grownBy w5 (Option.some N)) := grown_tr HG4.out hg
      have hs5 := hg.size
      clear hS hg
      cases y with
      | true =>
        go_wp2_with (at_builtin; refine wpList_append_own _ rfl _ _ 26 rfl w2.heap.size 3 i0 _ 1 8 Try.underlying26 hi hz0 hz1 hz2 rfl (by decide) _ _ _ rfl (World.ownsRow.alloc HV5.out _) ⟨World.heap _ |>.size, 0, none⟩ 1 1 [.int .i64 9] rfl rfl (news1 _ _ _) (ones1 _ _) (by have := HTL.out; unfold maxLen; omega) (by have := HTL.out; omega) (by simp; omega) ?_; intro v6 w6 hown6 hgrow6 _)
        have HO6 : Hid (w6.ownsRow w1.heap.size 3 1 (.slice ao5 l.length co5) l.length (flatR intF l)) := World.ownsRow.kept (World.ownsRow.alloc HO5.out _) hgrow6 (own_ne' HO2.out HV5.out (Nat.le_refl _))
        have HG6 : Hid (w1.grownBy w6 (Option.some N)) := grown_row HG5.out ((Below.refl _ _).alloc (Nat.le_refl _) _) hgrow6 (fun g hg => by have := (HV5.out.lt g hg).1; omega)
        refine bodyPost_ret (v := .tuple #[.slice ao5 l.length co5, v6]) (by simp [results, Try.results18, go_sem]) rfl ?_
        unfold BeginR
        refine ⟨_, v6, l, l.take m ++ [9], rfl, by omega, by have := HTL.out; simp; omega, own_base HO6.out hs1, ?_, drawn_below HB1.out hN HG6.out⟩
        rw [List.length_append, flatR_append]
        exact own_base hown6 (by omega)
      | false =>
        go_wp2
        refine bodyPost_ret (v := .tuple #[.slice ao5 l.length co5, v4]) (by simp [results, Try.results18, go_sem]) rfl ?_
        unfold BeginR
        exact ⟨_, v4, l, l.take m, rfl, by omega, by have := HTL.out; omega, own_base HO5.out hs1, own_base HV5.out (by omega), drawn_below HB1.out hN HG5.out⟩

end Go.Proofs.Ytjdddcldbfhbiab
