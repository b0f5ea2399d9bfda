/-
  Trees that are drawn.
-/
import Derived.Test.YtfnneillakdopabDrawB
namespace Go.Proofs.Ytfnneillakdopab
open Go.RowKit Num

theorem OwnT.st {w w' : World} {base B : Nat} {v : Value} {ps : TL} (h : OwnT w base v ps) (hg : w.grownBy w' (Option.some B)) (hB : B < base) : OwnT w' base v ps :=
  h.same fun g hgb hl => hg.block g hl fun e => by have := Option.some.inj e; omega
theorem small_ok {b : BK} (h : smallC b.2.1) : okB b := ⟨by have := h.1; omega, fun c hc => by have := (h.2 c hc).2; omega⟩
theorem drw_ok {t : List BK} {n : Nat} (h : Drw t n) (hn : n ≤ 1000) : okT t := ⟨by have := h.len; omega, fun b hb => small_ok (h.small b hb)⟩
/-- the phase that is drawn -/
def dphase (k : Nat) : Int := match k with
  | 0 => 1
  | _ => 4

set_option maxRecDepth 100000 in
set_option maxHeartbeats 8000000 in
theorem drawn_st {w : World} {B : Nat} {ao : Option Addr} {len cap b off : Nat} (h : St w B ao len cap b off) :
    Calls Try.prog 53 #[.pointer (Option.some ⟨B, 0, none⟩)] w fun e w' => ∃ (v : Value) (qs : TL), e = .returned v ∧ Drw (bks qs) 9 ∧ OwnT w' w.heap.size v qs ∧ St w' B ao len cap b off ∧ w.grownBy w' (Option.some B) := by
  have H : Hid (St w B ao len cap b off) := h
  have hBw := h.cur.lt
  clear h
  go_enter Try.func53, Try.ntmps53
  go_wp2_with fail
  refine (treeNew_s w).mono ?_
  rintro e w1 ⟨v1, rfl, ho1, hb1⟩
  have HO1 : Hid (OwnT w1 w.heap.size v1 [(firstB, .slice none 0 0)]) := ho1
  have HB1 : Hid (Below w.heap.size w w1) := hb1
  have hs1 := hb1.size
  clear ho1 hb1
  go_wp2_with fail
  have hb2 : Below w1.heap.size w1 (w1.alloc (.cells #[.int .i64 1, .int .i64 4] 3)) := (Below.refl _ _).alloc (Nat.le_refl _) _
  refine (pickI_st dphase 2 (by omega) (by omega) ((H.out.below HB1.out).below hb2) (by omega) (by simp) (fun j hj => ?_)).mono ?_
  · rw [cell_of_row _ w1.heap.size j _ _ (0, 0) (heap_alloc_new w1 _)]
    match j, hj with
    | 0, _ => rfl
    | 1, _ => rfl
  rintro e w2 ⟨j, _, rfl, hS2, hg2⟩
  have HS2 : Hid (St w2 B ao len cap b off) := hS2
  have HO2 : Hid (OwnT w2 w.heap.size v1 [(firstB, .slice none 0 0)]) := (HO1.out.below hb2).st hg2 hBw
  have HG2 : Hid (w.grownBy w2 (Option.some B)) := grown_tr (grown_none (bt HB1.out hb2)) hg2
  clear hS2 hg2 hb2
  go_wp2
  go_loopw [3, 5] (fun o i wr => ∃ (m : Nat) (qs : TL), m ≤ 8 ∧ i = .int .i64 (m : Int) ∧ Hid (Drw (bks qs) (m + 1)) ∧ Hid (OwnT wr w.heap.size o qs) ∧ Hid (St wr B ao len cap b off) ∧ Hid (w.grownBy wr (Option.some B))) (fun _ i _ => 9 - (intOf i).toNat)
  case atStart => exact ⟨0, [(firstB, .slice none 0 0)], by omega, rfl, (drw_one : Drw (bks [(firstB, Value.slice none 0 0)]) (0 + 1)), HO2.out, HS2.out, HG2.out⟩
  case round =>
    obtain ⟨m, qs, hm, rfl, HD, HO3, HS3, HG3⟩ := hrel
    obtain ⟨a3, c3, h3, _⟩ := own_form HO3.out.row
    subst h3
    have hql := HD.out.len
    have hqp := HD.out.pos
    rw [bks_len] at hql hqp
    have hl : (qs.length : Int) ≤ 1048576 := by omega
    go_wp2_with fail
    refine (below_st 9 (by omega) (by omega) HS3.out).mono ?_
    rintro e w4 ⟨x, rfl, hx0, hx1, hS, hg⟩
    have HS4 : Hid (St w4 B ao len cap b off) := hS
    have HO4 : Hid (OwnT w4 w.heap.size (.slice a3 qs.length c3) qs) := HO3.out.st hg hBw
    have HG4 : Hid (w.grownBy w4 (Option.some B)) := grown_tr HG3.out hg
    clear hS hg
    by_cases hlt : (m : Int) < x
    · have hm7 : m ≤ 7 := by omega
      go_wp2_with fail
      refine (once_st 4 (by omega) (by omega) HS4.out).mono ?_
      rintro e w5 ⟨y1, rfl, hS, hg⟩
      have HS5 : Hid (St w5 B ao len cap b off) := hS
      have HO5 : Hid (OwnT w5 w.heap.size (.slice a3 qs.length c3) qs) := HO4.out.st hg hBw
      have HG5 : Hid (w.grownBy w5 (Option.some B)) := grown_tr HG4.out hg
      clear hS hg
      cases y1
      · go_wp2_with fail
        refine (once_st 4 (by omega) (by omega) HS5.out).mono ?_
        rintro e w6 ⟨y2, rfl, hS, hg⟩
        have HS6 : Hid (St w6 B ao len cap b off) := hS
        have HO6 : Hid (OwnT w6 w.heap.size (.slice a3 qs.length c3) qs) := HO5.out.st hg hBw
        have HG6 : Hid (w.grownBy w6 (Option.some B)) := grown_tr HG5.out hg
        clear hS hg
        cases y2
        · go_wp2_with fail
          refine (cmds_st4 HS6.out).mono ?_
          rintro e w7 ⟨cv, l, rfl, hl, hall, hown, hS, hg⟩
          obtain ⟨ac, cc, rfl, _⟩ := own_form hown
          have HL : Hid (smallC l) := ⟨hl, hall⟩
          have HC7 : Hid (w7.ownsRow w6.heap.size 103 3 (.slice ac l.length cc) l.length (flatR cmdF l)) := hown
          have HS7 : Hid (St w7 B ao len cap b off) := hS
          have HO7 : Hid (OwnT w7 w.heap.size (.slice a3 qs.length c3) qs) := HO6.out.st hg hBw
          have HG7 : Hid (w.grownBy w7 (Option.some B)) := grown_tr HG6.out hg
          clear hS hg
          clear hl hall hown
          have hkk : qs.length - 1 < qs.length := by omega
          have hvw : viewAt (bks qs) ((qs.length - 1 : Nat) : Int) ≤ 20 ∧ 0 ≤ viewAt (bks qs) ((qs.length - 1 : Nat) : Int) := by
            have h1 := HD.out.views (qs.length - 1) (by rw [bks_len]; exact hkk)
            rw [viewAt_at (by rw [bks_len]; exact hkk)]
            omega
          have hcast : ((qs.length - 1 : Nat) : Int) = (qs.length : Int) - 1 := by omega
          have hon := on_s qs (.slice a3 qs.length c3) (qs.length - 1) 1 l ac l.length cc (dphase j) w7 HO7.out.read.q hkk (by omega) ⟨by omega, by omega⟩ ⟨by decide, by decide⟩
          rw [hcast] at hon
          have HON : Hid (Calls _ _ _ w7 _) := hon
          clear hon hcast
          go_wp2_with fail
          refine HON.out.mono ?_
          rintro e w8 ⟨rfl, hb⟩
          have HBB : Hid (Below w7.heap.size w7 w8) := hb
          clear hb
          go_wp2_with fail
          refine (putBlock_s qs (.slice a3 qs.length c3) (onB (bks qs) (qs.length - 1) 1 l (dphase j)) (.slice ac l.length cc) w8 (HO7.out.read.below HBB.out) ((rows_of_own cmdF_len HC7.out).below HBB.out) (drw_ok HD.out (by omega)) (small_ok HL.out)).mono ?_
          rintro e w9 ⟨v9, q9, rfl, hq9, ho9, hb9⟩
          have hs9 := HG7.out.size
          have hs9b := HBB.out.size
          have HQ9 : Hid (Drw (bks q9) (m + 1 + 1)) := (by rw [hq9]; exact HD.out.put (by rw [bks_len]; exact hkk) (by decide) (by decide) HL.out (by omega) : Drw (bks q9) (m + 1 + 1))
          have HO9 : Hid (OwnT w9 w.heap.size v9 q9) := ho9.base (by omega)
          have HS9 : Hid (St w9 B ao len cap b off) := HS7.out.below (bt HBB.out hb9)
          have HG9 : Hid (w.grownBy w9 (Option.some B)) := grown_tr HG7.out (grown_none (bt HBB.out hb9))
          clear hq9 ho9 hb9
          go_wp2
          go_roundw
          case rel => exact ⟨m + 1, q9, by omega, by go_num, HQ9.out, HO9.out, HS9.out, HG9.out⟩
          case measure => simp [intOf]; omega
        · go_wp2_with fail
          refine (cmds_st4 HS6.out).mono ?_
          rintro e w7 ⟨cv, l, rfl, hl, hall, hown, hS, hg⟩
          obtain ⟨ac, cc, rfl, _⟩ := own_form hown
          have HL : Hid (smallC l) := ⟨hl, hall⟩
          have HC7 : Hid (w7.ownsRow w6.heap.size 103 3 (.slice ac l.length cc) l.length (flatR cmdF l)) := hown
          have HS7 : Hid (St w7 B ao len cap b off) := hS
          have HO7 : Hid (OwnT w7 w.heap.size (.slice a3 qs.length c3) qs) := HO6.out.st hg hBw
          have HG7 : Hid (w.grownBy w7 (Option.some B)) := grown_tr HG6.out hg
          clear hS hg
          clear hl hall hown
          have hkk : qs.length - 1 < qs.length := by omega
          have hvw : viewAt (bks qs) ((qs.length - 1 : Nat) : Int) ≤ 20 ∧ 0 ≤ viewAt (bks qs) ((qs.length - 1 : Nat) : Int) := by
            have h1 := HD.out.views (qs.length - 1) (by rw [bks_len]; exact hkk)
            rw [viewAt_at (by rw [bks_len]; exact hkk)]
            omega
          have hcast : ((qs.length - 1 : Nat) : Int) = (qs.length : Int) - 1 := by omega
          have hon := on_s qs (.slice a3 qs.length c3) (qs.length - 1) 2 l ac l.length cc (dphase j) w7 HO7.out.read.q hkk (by omega) ⟨by omega, by omega⟩ ⟨by decide, by decide⟩
          rw [hcast] at hon
          have HON : Hid (Calls _ _ _ w7 _) := hon
          clear hon hcast
          go_wp2_with fail
          refine HON.out.mono ?_
          rintro e w8 ⟨rfl, hb⟩
          have HBB : Hid (Below w7.heap.size w7 w8) := hb
          clear hb
          go_wp2_with fail
          refine (putBlock_s qs (.slice a3 qs.length c3) (onB (bks qs) (qs.length - 1) 2 l (dphase j)) (.slice ac l.length cc) w8 (HO7.out.read.below HBB.out) ((rows_of_own cmdF_len HC7.out).below HBB.out) (drw_ok HD.out (by omega)) (small_ok HL.out)).mono ?_
          rintro e w9 ⟨v9, q9, rfl, hq9, ho9, hb9⟩
          have hs9 := HG7.out.size
          have hs9b := HBB.out.size
          have HQ9 : Hid (Drw (bks q9) (m + 1 + 1)) := (by rw [hq9]; exact HD.out.put (by rw [bks_len]; exact hkk) (by decide) (by decide) HL.out (by omega) : Drw (bks q9) (m + 1 + 1))
          have HO9 : Hid (OwnT w9 w.heap.size v9 q9) := ho9.base (by omega)
          have HS9 : Hid (St w9 B ao len cap b off) := HS7.out.below (bt HBB.out hb9)
          have HG9 : Hid (w.grownBy w9 (Option.some B)) := grown_tr HG7.out (grown_none (bt HBB.out hb9))
          clear hq9 ho9 hb9
          go_wp2
          go_roundw
          case rel => exact ⟨m + 1, q9, by omega, by go_num, HQ9.out, HO9.out, HS9.out, HG9.out⟩
          case measure => simp [intOf]; omega
      · go_wp2_with fail
        refine (below_st (qs.length : Int) (by omega) (by omega) HS5.out).mono ?_
        rintro e w6 ⟨kx, rfl, hk0, hk1, hS, hg⟩
        have HS6 : Hid (St w6 B ao len cap b off) := hS
        have HO6 : Hid (OwnT w6 w.heap.size (.slice a3 qs.length c3) qs) := HO5.out.st hg hBw
        have HG6 : Hid (w.grownBy w6 (Option.some B)) := grown_tr HG5.out hg
        clear hS hg
        obtain ⟨k, rfl⟩ := Int.eq_ofNat_of_zero_le hk0
        go_wp2_with fail
        refine (once_st 4 (by omega) (by omega) HS6.out).mono ?_
        rintro e w7 ⟨y2, rfl, hS, hg⟩
        have HS7 : Hid (St w7 B ao len cap b off) := hS
        have HO7 : Hid (OwnT w7 w.heap.size (.slice a3 qs.length c3) qs) := HO6.out.st hg hBw
        have HG7 : Hid (w.grownBy w7 (Option.some B)) := grown_tr HG6.out hg
        clear hS hg
        cases y2
        · go_wp2_with fail
          refine (cmds_st4 HS7.out).mono ?_
          rintro e w8 ⟨cv, l, rfl, hl, hall, hown, hS, hg⟩
          obtain ⟨ac, cc, rfl, _⟩ := own_form hown
          have HL : Hid (smallC l) := ⟨hl, hall⟩
          have HC8 : Hid (w8.ownsRow w7.heap.size 103 3 (.slice ac l.length cc) l.length (flatR cmdF l)) := hown
          have HS8 : Hid (St w8 B ao len cap b off) := hS
          have HO8 : Hid (OwnT w8 w.heap.size (.slice a3 qs.length c3) qs) := HO7.out.st hg hBw
          have HG8 : Hid (w.grownBy w8 (Option.some B)) := grown_tr HG7.out hg
          clear hS hg
          clear hl hall hown
          have hkk : k < qs.length := by omega
          have hvw : viewAt (bks qs) ((k : Nat) : Int) ≤ 20 ∧ 0 ≤ viewAt (bks qs) ((k : Nat) : Int) := by
            have h1 := HD.out.views (k) (by rw [bks_len]; exact hkk)
            rw [viewAt_at (by rw [bks_len]; exact hkk)]
            omega
          have hcast : ((k : Nat) : Int) = (k : Int) := by omega
          have hon := on_s qs (.slice a3 qs.length c3) (k) 1 l ac l.length cc (dphase j) w8 HO8.out.read.q hkk (by omega) ⟨by omega, by omega⟩ ⟨by decide, by decide⟩
          rw [hcast] at hon
          have HON : Hid (Calls _ _ _ w8 _) := hon
          clear hon hcast
          go_wp2_with fail
          refine HON.out.mono ?_
          rintro e w9 ⟨rfl, hb⟩
          have HBB : Hid (Below w8.heap.size w8 w9) := hb
          clear hb
          go_wp2_with fail
          refine (putBlock_s qs (.slice a3 qs.length c3) (onB (bks qs) (k) 1 l (dphase j)) (.slice ac l.length cc) w9 (HO8.out.read.below HBB.out) ((rows_of_own cmdF_len HC8.out).below HBB.out) (drw_ok HD.out (by omega)) (small_ok HL.out)).mono ?_
          rintro e w10 ⟨v9, q9, rfl, hq9, ho9, hb9⟩
          have hs9 := HG8.out.size
          have hs9b := HBB.out.size
          have HQ9 : Hid (Drw (bks q9) (m + 1 + 1)) := (by rw [hq9]; exact HD.out.put (by rw [bks_len]; exact hkk) (by decide) (by decide) HL.out (by omega) : Drw (bks q9) (m + 1 + 1))
          have HO9 : Hid (OwnT w10 w.heap.size v9 q9) := ho9.base (by omega)
          have HS9 : Hid (St w10 B ao len cap b off) := HS8.out.below (bt HBB.out hb9)
          have HG9 : Hid (w.grownBy w10 (Option.some B)) := grown_tr HG8.out (grown_none (bt HBB.out hb9))
          clear hq9 ho9 hb9
          go_wp2
          go_roundw
          case rel => exact ⟨m + 1, q9, by omega, by go_num, HQ9.out, HO9.out, HS9.out, HG9.out⟩
          case measure => simp [intOf]; omega
        · go_wp2_with fail
          refine (cmds_st4 HS7.out).mono ?_
          rintro e w8 ⟨cv, l, rfl, hl, hall, hown, hS, hg⟩
          obtain ⟨ac, cc, rfl, _⟩ := own_form hown
          have HL : Hid (smallC l) := ⟨hl, hall⟩
          have HC8 : Hid (w8.ownsRow w7.heap.size 103 3 (.slice ac l.length cc) l.length (flatR cmdF l)) := hown
          have HS8 : Hid (St w8 B ao len cap b off) := hS
          have HO8 : Hid (OwnT w8 w.heap.size (.slice a3 qs.length c3) qs) := HO7.out.st hg hBw
          have HG8 : Hid (w.grownBy w8 (Option.some B)) := grown_tr HG7.out hg
          clear hS hg
          clear hl hall hown
          have hkk : k < qs.length := by omega
          have hvw : viewAt (bks qs) ((k : Nat) : Int) ≤ 20 ∧ 0 ≤ viewAt (bks qs) ((k : Nat) : Int) := by
            have h1 := HD.out.views (k) (by rw [bks_len]; exact hkk)
            rw [viewAt_at (by rw [bks_len]; exact hkk)]
            omega
          have hcast : ((k : Nat) : Int) = (k : Int) := by omega
          have hon := on_s qs (.slice a3 qs.length c3) (k) 2 l ac l.length cc (dphase j) w8 HO8.out.read.q hkk (by omega) ⟨by omega, by omega⟩ ⟨by decide, by decide⟩
          rw [hcast] at hon
          have HON : Hid (Calls _ _ _ w8 _) := hon
          clear hon hcast
          go_wp2_with fail
          refine HON.out.mono ?_
          rintro e w9 ⟨rfl, hb⟩
          have HBB : Hid (Below w8.heap.size w8 w9) := hb
          clear hb
          go_wp2_with fail
          refine (putBlock_s qs (.slice a3 qs.length c3) (onB (bks qs) (k) 2 l (dphase j)) (.slice ac l.length cc) w9 (HO8.out.read.below HBB.out) ((rows_of_own cmdF_len HC8.out).below HBB.out) (drw_ok HD.out (by omega)) (small_ok HL.out)).mono ?_
          rintro e w10 ⟨v9, q9, rfl, hq9, ho9, hb9⟩
          have hs9 := HG8.out.size
          have hs9b := HBB.out.size
          have HQ9 : Hid (Drw (bks q9) (m + 1 + 1)) := (by rw [hq9]; exact HD.out.put (by rw [bks_len]; exact hkk) (by decide) (by decide) HL.out (by omega) : Drw (bks q9) (m + 1 + 1))
          have HO9 : Hid (OwnT w10 w.heap.size v9 q9) := ho9.base (by omega)
          have HS9 : Hid (St w10 B ao len cap b off) := HS8.out.below (bt HBB.out hb9)
          have HG9 : Hid (w.grownBy w10 (Option.some B)) := grown_tr HG8.out (grown_none (bt HBB.out hb9))
          clear hq9 ho9 hb9
          go_wp2
          go_roundw
          case rel => exact ⟨m + 1, q9, by omega, by go_num, HQ9.out, HO9.out, HS9.out, HG9.out⟩
          case measure => simp [intOf]; omega
    · go_wp2
      go_ret
      exact ⟨_, qs, rfl, HD.out.le (by omega), HO4.out, HS4.out, HG4.out⟩

end Go.Proofs.Ytfnneillakdopab
