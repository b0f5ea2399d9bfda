/-
  Contracts of the specification's drawing functions of accounts and commands: what is drawn is right where it must be, and of a size that is met; the cursor's own block alone turns, beside new memory.
-/
import Derived.Test.YtfnneillakdopabDraw2
import Derived.Test.YtfnneillakdopabCmdF
import Derived.Test.YtfnneillakdopabCmdI
namespace Go.Proofs.Ytfnneillakdopab
open Go.RowKit Num

theorem all_snoc {α : Type} {P : α → Prop} {l : List α} {c : α} (h : ∀ d ∈ l, P d) (hc : P c) : ∀ d ∈ l ++ [c], P d := by
  intro d hd
  rcases List.mem_append.1 hd with h1 | h1
  · exact h d h1
  · simp at h1; subst h1; exact hc
/-- one of a row of texts that the call made -/
theorem pickS_st {w : World} {B L : Nat} {ao : Option Addr} {len cap b off : Nat} (f : Nat → ByteArray) (n : Nat) (hn : 0 < n) (hn2 : n ≤ 1000) (h : St w B ao len cap b off) (hL : L ≠ B) (hLl : L < w.heap.size) (hc : ∀ k, k < n → w.cell? ⟨L, k, none⟩ = Option.some (.string (f k))) :
    Calls Try.prog 90 #[.pointer (Option.some ⟨B, 0, none⟩), .slice (Option.some ⟨L, 0, none⟩) n n] w fun e w' => ∃ k, k < n ∧ e = .returned (.string (f k)) ∧ St w' B ao len cap b off ∧ w.grownBy w' (Option.some B) := by
  have H : Hid (St w B ao len cap b off) := h
  have HC : Hid (∀ k, k < n → w.cell? ⟨L, k, none⟩ = Option.some (.string (f k))) := hc
  clear h hc
  go_enter Try.func90, Try.ntmps90
  go_wp2_with fail
  refine (below_st (n : Int) (by omega) (by omega) H.out).mono ?_
  rintro e w' ⟨x, rfl, hx0, hx1, hS, hg⟩
  obtain ⟨k, rfl⟩ := Int.eq_ofNat_of_zero_le hx0
  have hkn : k < n := by omega
  have hv' : w'.cell? ⟨L, k, none⟩ = Option.some (.string (f k)) := by
    rw [World.cell?_of_block (w := w) (hg.block L hLl (fun e => hL (Option.some.inj e)))]; exact HC.out k hkn
  have HS : Hid (St w' B ao len cap b off) := hS
  clear hS
  go_wp2
  go_ret
  exact ⟨k, hkn, rfl, HS.out, hg⟩

/-- one of a row of numbers that the call made -/
theorem pickI_st {w : World} {B L : Nat} {ao : Option Addr} {len cap b off : Nat} (f : Nat → Int) (n : Nat) (hn : 0 < n) (hn2 : n ≤ 1000) (h : St w B ao len cap b off) (hL : L ≠ B) (hLl : L < w.heap.size) (hc : ∀ k, k < n → w.cell? ⟨L, k, none⟩ = Option.some (.int .i64 (f k))) :
    Calls Try.prog 68 #[.pointer (Option.some ⟨B, 0, none⟩), .slice (Option.some ⟨L, 0, none⟩) n n] w fun e w' => ∃ k, k < n ∧ e = .returned (.int .i64 (f k)) ∧ St w' B ao len cap b off ∧ w.grownBy w' (Option.some B) := by
  have H : Hid (St w B ao len cap b off) := h
  have HC : Hid (∀ k, k < n → w.cell? ⟨L, k, none⟩ = Option.some (.int .i64 (f k))) := hc
  clear h hc
  go_enter Try.func68, Try.ntmps68
  go_wp2_with fail
  refine (below_st (n : Int) (by omega) (by omega) H.out).mono ?_
  rintro e w' ⟨x, rfl, hx0, hx1, hS, hg⟩
  obtain ⟨k, rfl⟩ := Int.eq_ofNat_of_zero_le hx0
  have hkn : k < n := by omega
  have hv' : w'.cell? ⟨L, k, none⟩ = Option.some (.int .i64 (f k)) := by
    rw [World.cell?_of_block (w := w) (hg.block L hLl (fun e => hL (Option.some.inj e)))]; exact HC.out k hkn
  have HS : Hid (St w' B ao len cap b off) := hS
  clear hS
  go_wp2
  go_ret
  exact ⟨k, hkn, rfl, HS.out, hg⟩

/-- the keys that are drawn -/
def dkey (k : Nat) : ByteArray := match k with
  | 0 => ⟨#[97]⟩
  | 1 => ⟨#[98]⟩
  | 2 => ⟨#[99]⟩
  | _ => ⟨#[97, 98, 99]⟩
theorem dkey_ok (k : Nat) : keyB (dkey k) = true := by
  match k with
  | 0 => decide
  | 1 => decide
  | 2 => decide
  | _ + 3 => exact (by decide : keyB ⟨#[97, 98, 99]⟩ = true)
theorem dkey_size (k : Nat) : (dkey k).size ≤ 3 := by
  match k with
  | 0 => decide
  | 1 => decide
  | 2 => decide
  | _ + 3 => exact (by decide : (⟨#[97, 98, 99]⟩ : ByteArray).size ≤ 3)

set_option maxRecDepth 100000 in
theorem key_st {w : World} {B : Nat} {ao : Option Addr} {len cap b off : Nat} (h : St w B ao len cap b off) :
    Calls Try.prog 91 #[.pointer (Option.some ⟨B, 0, none⟩)] w fun e w' => ∃ k, e = .returned (.string (dkey k)) ∧ St w' B ao len cap b off ∧ w.grownBy w' (Option.some B) := by
  have H : Hid (St w B ao len cap b off) := h
  clear h
  go_enter Try.func91, Try.ntmps91
  go_wp2_with fail
  have hb : Below w.heap.size w (w.alloc (.cells #[.string ⟨#[97]⟩, .string ⟨#[98]⟩, .string ⟨#[99]⟩, .string ⟨#[97, 98, 99]⟩] 9)) := (Below.refl _ _).alloc (Nat.le_refl _) _
  refine (pickS_st dkey 4 (by omega) (by omega) (H.out.below hb) (by have := H.out.cur.lt; omega) (by simp) (fun k hk => ?_)).mono ?_
  · rw [cell_of_row _ w.heap.size k _ _ (0, 0) (heap_alloc_new w _)]
    match k, hk with
    | 0, _ => rfl
    | 1, _ => rfl
    | 2, _ => rfl
    | 3, _ => rfl
  rintro e w2 ⟨k, _, rfl, hS2, hg2⟩
  have HS2 : Hid (St w2 B ao len cap b off) := hS2
  clear hS2
  go_wp2
  go_ret
  exact ⟨k, rfl, HS2.out, grown_tr (grown_none hb) hg2⟩

def dnum (k : Nat) : Int := match k with
  | 0 => 0
  | 1 => 1
  | 2 => 7
  | 3 => 500
  | _ => 999999999
theorem dnum_ok (k : Nat) : numB (dnum k) = true := by
  match k with
  | 0 => decide
  | 1 => decide
  | 2 => decide
  | 3 => decide
  | _ + 4 => exact (by decide : numB 999999999 = true)

/-- one block written, and another: the second one is new -/
theorem grown_two {w w1 w2 : World} {r : Option Nat} {N : Nat} (h : w.grownBy w1 r) (hN : w.heap.size ≤ N) (k : w1.grownBy w2 (Option.some N)) : w.grownBy w2 r :=
  ⟨k.os.trans h.os, k.tape.trans h.tape, k.output.trans h.output, Nat.le_trans h.size k.size, fun i hi hr => (k.block i (Nat.lt_of_lt_of_le hi h.size) (fun e => by have := Option.some.inj e; omega)).trans (h.block i hi hr)⟩

theorem St.other {w w' : World} {B N : Nat} {ao : Option Addr} {len cap b off : Nat} (h : St w B ao len cap b off) (hg : w.grownBy w' (Option.some N)) (hN : B ≠ N) (hb : 0 < len → b ≠ N) : St w' B ao len cap b off :=
  ⟨h.code.grown hg (fun hl e => hb hl (Option.some.inj e)), h.cur.keep (hg.block B h.cur.lt (fun e => hN (Option.some.inj e))), h.ne⟩
/-- a row of the call's own is written -/
theorem St.row {w w' : World} {B : Nat} {r : Option Nat} {ao : Option Addr} {len cap b off : Nat} (h : St w B ao len cap b off) (hg : w.grownBy w' r) (hN : ∀ g, r = Option.some g → B ≠ g) (hb : 0 < len → ∀ g, r = Option.some g → b ≠ g) : St w' B ao len cap b off :=
  ⟨h.code.grown hg (fun hl e => hb hl b e.symm rfl), h.cur.keep (hg.block B h.cur.lt (fun e => hN B e.symm rfl)), h.ne⟩
theorem grown_row {w w1 w2 w3 : World} {r q : Option Nat} (h : w.grownBy w1 r) (hb : Below w1.heap.size w1 w2) (k : w2.grownBy w3 q) (hq : ∀ g, q = Option.some g → w.heap.size ≤ g) : w.grownBy w3 r :=
  ⟨(k.os.trans hb.os).trans h.os, (k.tape.trans hb.tape).trans h.tape, (k.output.trans hb.output).trans h.output, Nat.le_trans h.size (Nat.le_trans hb.size k.size), fun i hi hr => ((k.block i (Nat.lt_of_lt_of_le hi (Nat.le_trans h.size hb.size)) (fun e => by have := hq i e.symm; omega)).trans (hb.block i (Nat.lt_of_lt_of_le hi h.size))).trans (h.block i hi hr)⟩

set_option maxRecDepth 100000 in
set_option maxHeartbeats 1000000 in
theorem cmd_st {w : World} {B : Nat} {ao : Option Addr} {len cap b off : Nat} (h : St w B ao len cap b off) :
    Calls Try.prog 87 #[.pointer (Option.some ⟨B, 0, none⟩)] w fun e w' => ∃ c : CM, e = .returned (cmdV c) ∧ cmdB c = true ∧ c.2.1.size ≤ 3 ∧ St w' B ao len cap b off ∧ w.grownBy w' (Option.some B) := by
  have H : Hid (St w B ao len cap b off) := h
  have hBw := h.cur.lt
  clear h
  go_enter Try.func87, Try.ntmps87
  go_wp2_with fail
  have hb : Below w.heap.size w (w.alloc (.cells #[.int .i64 0, .string ByteArray.empty, .int .i64 0] 103)) := (Below.refl _ _).alloc (Nat.le_refl _) _
  refine (below_st 3 (by omega) (by omega) (H.out.below hb)).mono ?_
  rintro e w2 ⟨x, rfl, hx0, hx1, hS2, hg2⟩
  have HS2 : Hid (St w2 B ao len cap b off) := hS2
  have HK2 : Hid (w2.heap[w.heap.size]? = Option.some (.cells #[.int .i64 0, .string ByteArray.empty, .int .i64 0] 103 (0, 0))) := (hg2.block w.heap.size (by simp) (fun e => by have := Option.some.inj e; omega)).trans (heap_alloc_new w _)
  have HG2 : Hid (w.grownBy w2 (Option.some B)) := grown_tr (grown_none hb) hg2
  clear hS2 hg2 hb
  go_wp2_with fail
  refine (key_st HS2.out).mono ?_
  rintro e w3 ⟨k, rfl, hS3, hg3⟩
  have HS3 : Hid (St w3 B ao len cap b off) := hS3
  have hs2 : w.heap.size < w2.heap.size := (Array.getElem?_eq_some_iff.1 HK2.out).1
  have HK3 : Hid (w3.heap[w.heap.size]? = Option.some (.cells #[.int .i64 0, .string ByteArray.empty, .int .i64 0] 103 (0, 0))) := (hg3.block w.heap.size hs2 (fun e => by have := Option.some.inj e; omega)).trans HK2.out
  have HG3 : Hid (w.grownBy w3 (Option.some B)) := grown_tr HG2.out hg3
  clear hS3 hg3
  go_wp2_with fail
  have hb3 : Below w3.heap.size w3 (w3.alloc (.cells #[.int .i64 0, .int .i64 1, .int .i64 7, .int .i64 500, .int .i64 999999999] 3)) := (Below.refl _ _).alloc (Nat.le_refl _) _
  refine (pickI_st dnum 5 (by omega) (by omega) (HS3.out.below hb3) (by have := HS3.out.cur.lt; omega) (by simp) (fun j hj => ?_)).mono ?_
  · rw [cell_of_row _ w3.heap.size j _ _ (0, 0) (heap_alloc_new w3 _)]
    match j, hj with
    | 0, _ => rfl
    | 1, _ => rfl
    | 2, _ => rfl
    | 3, _ => rfl
    | 4, _ => rfl
  rintro e w4 ⟨j, _, rfl, hS4, hg4⟩
  have hs3 : w.heap.size < w3.heap.size := (Array.getElem?_eq_some_iff.1 HK3.out).1
  have HK4 : Hid (w4.heap[w.heap.size]? = Option.some (.cells #[.int .i64 0, .string ByteArray.empty, .int .i64 0] 103 (0, 0))) := ((hg4.block w.heap.size (by simp; omega) (fun e => by have := Option.some.inj e; omega)).trans (hb3.block _ hs3)).trans HK3.out
  have HG4 : Hid (w.grownBy w4 (Option.some B)) := grown_tr HG3.out (grown_tr (grown_none hb3) hg4)
  have HS4 : Hid (St w4 B ao len cap b off) := hS4
  clear hS4 hg4 hb3
  obtain ⟨⟨x0, f0⟩, ⟨x1', f1⟩, ⟨x2, f2⟩, hk5, hg5⟩ := blk_three HK4.out (.int .i64 (1 + x)) (.string (dkey k)) (.int .i64 (dnum j))
  have y0 : (((w4.setCell ⟨w.heap.size, 0, none⟩ (.int .i64 (1 + x))).setCell ⟨w.heap.size, 1, none⟩ (.string (dkey k))).setCell ⟨w.heap.size, 2, none⟩ (.int .i64 (dnum j))).cell? ⟨w.heap.size, 0, none⟩ = Option.some (.int .i64 (1 + x)) := by rw [cell_of_row _ w.heap.size 0 _ _ (0, 0) hk5]; rfl
  have y1 : (((w4.setCell ⟨w.heap.size, 0, none⟩ (.int .i64 (1 + x))).setCell ⟨w.heap.size, 1, none⟩ (.string (dkey k))).setCell ⟨w.heap.size, 2, none⟩ (.int .i64 (dnum j))).cell? ⟨w.heap.size, 1, none⟩ = Option.some (.string (dkey k)) := by rw [cell_of_row _ w.heap.size 1 _ _ (0, 0) hk5]; rfl
  have y2 : (((w4.setCell ⟨w.heap.size, 0, none⟩ (.int .i64 (1 + x))).setCell ⟨w.heap.size, 1, none⟩ (.string (dkey k))).setCell ⟨w.heap.size, 2, none⟩ (.int .i64 (dnum j))).cell? ⟨w.heap.size, 2, none⟩ = Option.some (.int .i64 (dnum j)) := by rw [cell_of_row _ w.heap.size 2 _ _ (0, 0) hk5]; rfl
  have HG5 : Hid (w4.grownBy (((w4.setCell ⟨w.heap.size, 0, none⟩ (.int .i64 (1 + x))).setCell ⟨w.heap.size, 1, none⟩ (.string (dkey k))).setCell ⟨w.heap.size, 2, none⟩ (.int .i64 (dnum j))) (Option.some w.heap.size)) := hg5
  clear hk5 hg5
  go_wp2
  refine bodyPost_ret (v := .agg #[_, _, _]) (by simp [results, Try.results87, go_sem, y0, y1, y2]; exact ⟨rfl, rfl, rfl⟩) rfl ?_
  refine ⟨(1 + x, dkey k, dnum j), rfl, ?_, dkey_size k, HS4.out.other HG5.out (by omega) (fun hl e => by have := H.out.code.lt hl; omega), grown_two HG4.out (Nat.le_refl _) HG5.out⟩
  rw [cmdB_rest ⟨by simp only; omega, by simp only; omega⟩ (dkey_ok k)]
  exact dnum_ok j

theorem infoCm : (Try.prog.info? 103).map (fun i => (i.zero, i.size, i.bytes)) = some (some (.agg #[.int .i64 0, .string ByteArray.empty, .int .i64 0]), 3, 32) := by kernel_rfl
theorem news3 (W : World) (c : CM) (t : TypeId) : ∀ j u, (cmdF c)[j]? = some u → (W.alloc (.cells #[.int .i64 c.1, .string c.2.1, .int .i64 c.2.2] t)).cell? ((⟨W.heap.size, 0, none⟩ : Addr).add j) = some u := by
  intro j u hj
  match j, hj with
  | 0, hj => simp [cmdF] at hj; subst hj; simp [Addr.add]
  | 1, hj => simp [cmdF] at hj; subst hj; simp [Addr.add]
  | 2, hj => simp [cmdF] at hj; subst hj; simp [Addr.add]
theorem ones3 (c : CM) : ∀ u ∈ cmdF c, u.oneCell' = true := by
  intro u hu; simp [cmdF] at hu; rcases hu with h | h | h <;> subst h <;> rfl

set_option maxRecDepth 100000 in
set_option maxHeartbeats 1000000 in
theorem cmds_st4 {w : World} {B : Nat} {ao : Option Addr} {len cap b off : Nat} (h : St w B ao len cap b off) :
    Calls Try.prog 76 #[.pointer (Option.some ⟨B, 0, none⟩)] w fun e w' => ∃ (v : Value) (l : List CM), e = .returned v ∧ l.length ≤ 4 ∧ (∀ c ∈ l, cmdB c = true ∧ c.2.1.size ≤ 3) ∧ w'.ownsRow w.heap.size 103 3 v l.length (flatR cmdF l) ∧ St w' B ao len cap b off ∧ w.grownBy w' (Option.some B) := by
  have H : Hid (St w B ao len cap b off) := h
  have hBw := h.cur.lt
  obtain ⟨i0, hi, hz0, hz1, hz2⟩ := info_parts infoCm
  have hb : Below w.heap.size w (w.alloc (.cells #[] 103)) := (Below.refl _ _).alloc (Nat.le_refl _) _
  have HB : Hid (Below w.heap.size w (w.alloc (.cells #[] 103))) := hb
  clear h hb
  go_enter Try.func76, Try.ntmps76
  go_wp2
  go_loopw [3, 4] (fun o i wr => ∃ l : List CM, l.length ≤ 4 ∧ i = .int .i64 (l.length : Int) ∧ Hid (∀ c ∈ l, cmdB c = true ∧ c.2.1.size ≤ 3) ∧ Hid (wr.ownsRow w.heap.size 103 3 o l.length (flatR cmdF l)) ∧ Hid (St wr B ao len cap b off) ∧ Hid (w.grownBy wr (Option.some B))) (fun _ i _ => 6 - (intOf i).toNat)
  case atStart => exact ⟨[], by simp, rfl, fun c hc => (by cases hc), own_new w 103 3, H.out.below HB.out, grown_none HB.out⟩
  case round =>
    obtain ⟨l, hl, rfl, HL, HO, HS, HG⟩ := hrel
    have hs1 := HG.out.size
    go_wp2_with fail
    refine (below_st 5 (by omega) (by omega) HS.out).mono ?_
    rintro e w2 ⟨x, rfl, hx0, hx1, hS2, hg2⟩
    have HS2 : Hid (St w2 B ao len cap b off) := hS2
    have HO2 : Hid (w2.ownsRow w.heap.size 103 3 u3 l.length (flatR cmdF l)) := World.ownsRow.kept HO.out hg2 (own_far HO.out hBw)
    have HG2 : Hid (w.grownBy w2 (Option.some B)) := grown_tr HG.out hg2
    have hs2 := HG2.out.size
    clear hS2 hg2
    by_cases hlt : (l.length : Int) < x
    · go_wp2_with fail
      refine (cmd_st HS2.out).mono ?_
      rintro e w3 ⟨c, rfl, hcb, hcs, hS3, hg3⟩
      have HS3 : Hid (St w3 B ao len cap b off) := hS3
      have HO3 : Hid (w3.ownsRow w.heap.size 103 3 u3 l.length (flatR cmdF l)) := World.ownsRow.kept HO2.out hg3 (own_far HO2.out hBw)
      have HG3 : Hid (w.grownBy w3 (Option.some B)) := grown_tr HG2.out hg3
      have hs3 := HG3.out.size
      have HCB : Hid (cmdB c = true ∧ c.2.1.size ≤ 3) := ⟨hcb, hcs⟩
      clear hS3 hg3 hcb hcs
      unfold cmdV
      go_wp2_with (at_builtin; refine wpList_append_own _ rfl _ _ 29 rfl w.heap.size 103 i0 _ 3 32 Try.underlying29 hi hz0 hz1 hz2 rfl (by decide) _ _ _ rfl (World.ownsRow.alloc HO3.out _) ⟨World.heap _ |>.size, 0, none⟩ 1 1 (cmdF c) rfl rfl (news3 _ _ _) (ones3 _) (by unfold maxLen; omega) (by omega) (by simp; omega) ?_; intro v4 w4 hown4 hgrow4 _)
      have HO4 : Hid (w4.ownsRow w.heap.size 103 3 v4 (l.length + 1) (flatR cmdF l ++ cmdF c)) := hown4
      have HS4 : Hid (St w4 B ao len cap b off) := ((HS3.out.below ((Below.refl _ _).alloc (Nat.le_refl _) _)).row hgrow4 (fun g hg => by have := (HO3.out.lt g hg).1; omega) (fun hl => by have := H.out.code.lt hl; intro g hg; have := (HO3.out.lt g hg).1; omega))
      have HG4 : Hid (w.grownBy w4 (Option.some B)) := grown_row HG3.out ((Below.refl _ _).alloc (Nat.le_refl _) _) hgrow4 (fun g hg => (HO3.out.lt g hg).1)
      clear hown4 hgrow4
      go_roundw
      case rel => exact ⟨l ++ [c], by simp; omega, by simp, all_snoc HL.out HCB.out, (by rw [flatR_append, List.length_append]; exact HO4.out), HS4.out, HG4.out⟩
      case measure => simp [intOf]; omega
    · go_wp2
      go_ret
      exact ⟨u3, l, rfl, hl, HL.out, HO2.out, HS2.out, HG2.out⟩

theorem cmds_st {w : World} {B : Nat} {ao : Option Addr} {len cap b off : Nat} (h : St w B ao len cap b off) :
    Calls Try.prog 76 #[.pointer (Option.some ⟨B, 0, none⟩)] w fun e w' => ∃ (v : Value) (l : List CM), e = .returned v ∧ l.length ≤ 5 ∧ (∀ c ∈ l, cmdB c = true ∧ c.2.1.size ≤ 3) ∧ w'.ownsRow w.heap.size 103 3 v l.length (flatR cmdF l) ∧ St w' B ao len cap b off ∧ w.grownBy w' (Option.some B) :=
  (cmds_st4 h).mono fun _ _ ⟨v, l, h1, h2, h3⟩ => ⟨v, l, h1, by omega, h3⟩

theorem cmds_small {l : List CM} (h : ∀ c ∈ l, cmdB c = true ∧ c.2.1.size ≤ 3) : ∀ c ∈ l, (c.2.1.size : Int) ≤ 1048576 := fun c hc => by have := (h c hc).2; omega

theorem cells_none (W : World) (t : TypeId) : Cells (W.alloc (.cells #[] t)) (.slice (some ⟨W.heap.size, 0, none⟩) 0 0) [] := ⟨_, 0, rfl, fun h => by simp at h⟩


end Go.Proofs.Ytfnneillakdopab
