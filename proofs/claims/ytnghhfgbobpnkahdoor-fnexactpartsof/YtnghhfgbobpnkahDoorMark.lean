/-
  Contracts of laws.markText, laws.markStringS, laws.heldStringS and laws.eqStringS: rows of texts that are marked, looked at, and held against each other.
-/
import Derived.Test.YtnghhfgbobpnkahDoorOwn
import Derived.Test.YtnghhfgbobpnkahDoorDecN
import Derived.Test.YtnghhfgbobpnkahDoorBw
import Derived.Laws.OwnMore
namespace Go.Proofs.YtnghhfgbobpnkahDoor
open Go.RowKit Num

/-- a mark -/
def mk (k : Nat) : ByteArray := strOfNums (109 :: dd k k)

theorem m_app (ys : List Int) : (⟨#[109]⟩ : ByteArray) ++ strOfNums ys = strOfNums (109 :: ys) := by
  apply ByteArray.ext; simp [strOfNums, ByteArray.data_append]
theorem ret_ba {a b : ByteArray} (h : a = b) : Ending.returned (.string a) = .returned (.string b) := by rw [h]

set_option maxRecDepth 100000 in
set_option maxHeartbeats 1000000 in
theorem markText_any (k : Nat) (w : World) (h0 : 0 < k) (h1 : k ≤ 1000000000) :
    Calls Tryd.prog 22 #[.int .i64 k] w fun e w' => e = .returned (.string (mk k)) ∧ Below w.heap.size w w' := by
  have hp : (0 : Int) < (k : Int) := by omega
  have hcv := one_str
  go_enter Tryd.func22, Tryd.ntmps22
  go_wp2
  go_loopw [0, 3] (fun a v wr => ∃ (m : Nat) (ys : List Int) (f : Nat), a = .int .i64 m ∧ m ≤ k ∧ m ≤ f ∧ v = .string (strOfNums ys) ∧ ys.length + m ≤ k ∧ Hid (dd k k = dd f m ++ ys) ∧ Below w.heap.size w wr) (fun a _ _ => (intOf a).toNat)
  case atStart => exact ⟨k, [], k, rfl, by omega, by omega, rfl, by simp, by simp [Hid], Below.refl _ _⟩
  case round =>
    obtain ⟨m, ys, f, rfl, hm1, hf, rfl, hyl, HY, hbel⟩ := hrel
    have hbs := hbel.size
    by_cases hm : m = 0
    · have hmz : ¬ (0 : Int) < (m : Int) := by omega
      have HM : Hid (m = 0) := hm
      have hadd : (⟨#[109]⟩ : ByteArray).size + (strOfNums ys).size ≤ 9223372036854775807 := by rw [strOfNums_size]; show 1 + _ ≤ _; omega
      clear hm
      go_wp2
      go_ret
      exact ⟨ret_ba (by rw [m_app, mk, HY.out, HM.out]; simp [dd_zero]), hbel⟩
    · obtain ⟨g, hg, hgf⟩ := dd_step f m (by omega) hf
      have HG : Hid (dd f m = _) := hg
      have hmp : (0 : Int) < (m : Int) := by omega
      have hadd : (strOfNums [48 + (m : Int) % 10]).size + (strOfNums ys).size ≤ 9223372036854775807 := by rw [strOfNums_size, strOfNums_size]; simp; omega
      clear hm hg
      go_wp2
      go_roundw
      case rel => exact ⟨m / 10, (48 + (m : Int) % 10) :: ys, g, by simp, by omega, hgf, by rw [str_append]; rfl, by simp; omega, (show dd k k = dd g (m / 10) ++ ((48 + (m : Int) % 10) :: ys) from by rw [HY.out, HG.out]; simp), hbel.alloc hbs _⟩
      case measure => simp [intOf]; omega

/-- a slice of texts that a call has made -/
def Row9 (w : World) (base : Nat) (v : Value) (L : List ByteArray) : Prop := w.ownsRow base 9 1 v L.length (L.map Value.string)

theorem Row9.below {w w' : World} {base : Nat} {v : Value} {L : List ByteArray} (h : Row9 w base v L) (hb : Below w.heap.size w w') : Row9 w' base v L :=
  World.ownsRow.kept h (below_grown hb) (by cases v.ownBlock <;> simp)
theorem Row9.grown {w w' : World} {base : Nat} {v : Value} {L : List ByteArray} {r : Option Nat} (h : Row9 w base v L) (hb : w.grownBy w' r) (hne : v.ownBlock = none ∨ v.ownBlock ≠ r) : Row9 w' base v L :=
  World.ownsRow.kept h hb hne
theorem Row9.nil (w : World) (base : Nat) : Row9 w base (.slice none 0 0) [] := World.ownsRow_nil _ _ _ _
theorem Row9.form {w : World} {base : Nat} {v : Value} {L : List ByteArray} (h : Row9 w base v L) :
    (v = .slice none 0 0 ∧ L = []) ∨ ∃ g cap, v = .slice (some ⟨g, 0, none⟩) L.length cap ∧ g < w.heap.size ∧ base ≤ g ∧ ∀ i, i < L.length → w.cell? ⟨g, i, none⟩ = some (.string (L.getD i ByteArray.empty)) ∧ w.frozen? ⟨g, i, none⟩ = false := by
  have h' := h
  obtain ⟨hl, ⟨rfl, hn⟩ | ⟨g, cap, cur, rfl, hb, hh, _⟩⟩ := h
  · exact .inl ⟨rfl, List.eq_nil_of_length_eq_zero hn⟩
  · refine .inr ⟨g, cap, rfl, (World.ownsRow.lt h' g rfl).2, hb, fun i hi => ⟨?_, World.ownsRow.frozenAt h' i⟩⟩
    rw [World.ownsRow.cellAt h' i (by omega), List.getElem?_map, List.getElem?_eq_getElem hi]
    simp [List.getD, List.getElem?_eq_getElem hi]

theorem Row9.cellAt {w : World} {base g n cap : Nat} {L : List ByteArray} (h : Row9 w base (.slice (some ⟨g, 0, none⟩) n cap) L) (i : Nat) (hi : i < L.length) :
    w.cell? ⟨g, i, none⟩ = some (.string (L.getD i ByteArray.empty)) ∧ w.frozen? ⟨g, i, none⟩ = false := by
  rcases h.form with ⟨h1, _⟩ | ⟨g', cap', h1, _, _, h2⟩
  · simp at h1
  · simp only [Value.slice.injEq, Option.some.injEq, Addr.mk.injEq, and_true] at h1
    rw [h1.1]; exact h2 i hi

/-- the first n marks -/
def marks (n : Nat) : List ByteArray := (List.range n).map fun i => mk (i + 1)
theorem marks_len (n : Nat) : (marks n).length = n := by simp [marks]
theorem marks_at (n i : Nat) (h : i < n) : (marks n).getD i ByteArray.empty = mk (i + 1) := by simp [marks, List.getD, h]

/-- a row that holds marks is told so -/
theorem held_nil (w : World) (ao : Option Addr) (ca : Nat) :
    Calls Tryd.prog 13 #[.slice ao 0 ca, .int .i64 1] w fun e w' => e = .returned (.int .i64 1) ∧ Below w.heap.size w w' := by
  go_enter Tryd.func13, Tryd.ntmps13
  go_wp2
  go_loop [1, 5] (fun k i => k = .int .i64 1 ∧ i = .int .i64 0) (fun _ _ => 0)
  case atStart => exact ⟨rfl, rfl⟩
  case round =>
    obtain ⟨rfl, rfl⟩ := hrel
    go_wp2
    go_ret
    exact ⟨rfl, Below.refl _ _⟩

set_option maxRecDepth 100000 in
set_option maxHeartbeats 1000000 in
theorem held_some (n g cap : Nat) (w : World) (hn : n ≤ 1000) (hg : g < w.heap.size) (hc : ∀ i, i < n → w.cell? ⟨g, i, none⟩ = some (.string (mk (i + 1)))) :
    Calls Tryd.prog 13 #[.slice (some ⟨g, 0, none⟩) n cap, .int .i64 1] w fun e w' => e = .returned (.int .i64 (1 + n)) ∧ Below w.heap.size w w' := by
  go_enter Tryd.func13, Tryd.ntmps13
  go_wp2
  go_loopw [1, 5] (fun k i wr => ∃ m : Nat, m ≤ n ∧ k = .int .i64 ((m + 1 : Nat) : Int) ∧ i = .int .i64 m ∧ Below w.heap.size w wr) (fun _ i _ => n - (intOf i).toNat)
  case atStart => exact ⟨0, Nat.zero_le _, rfl, rfl, Below.refl _ _⟩
  case round =>
    obtain ⟨m, hm, rfl, rfl, hbel⟩ := hrel
    by_cases hlt : (m : Int) < n
    · have q0 : (0 : Int) ≤ (m : Int) := by omega
      have hcw : ∀ x : Bw wr, x.to.cell? ⟨g, m, none⟩ = some (.string (mk (m + 1))) := fun x => by
        rw [x.below.cell (by exact Nat.lt_of_lt_of_le hg hbel.size), hbel.cell (by exact hg)]
        exact hc m (by omega)
      have hne := bw_some wr
      have hmk : ∀ x : Bw wr, Calls Tryd.prog 22 #[.int .i64 ((m : Int) + 1)] x.to fun e w' => e = .returned (.string (mk (m + 1))) ∧ Below x.to.heap.size x.to w' := fun x => by
        have := markText_any (m + 1) x.to (by omega) (by omega)
        simpa using this
      have HK : Hid _ := hmk
      clear hmk hc
      go_wp2
      refine wp_region_bw (by kernel_rfl) (by kernel_rfl) ?_
      repeat (go_big_quiet_step (refine calls_bw (HK.out _)))
      refine wpQuiet_nil ?_
      intro _ hw'
      obtain ⟨x, rfl⟩ := hw'
      go_wp2
      go_roundw
      case rel => exact ⟨m + 1, by omega, by go_num, by go_num, hbel.trans (x.below.mono hbel.size)⟩
      case measure => simp [intOf]; omega
    · go_wp2
      go_ret
      exact ⟨ret_int (by omega), hbel⟩

theorem held_any {n base : Nat} {v : Value} {w : World} (hn : n ≤ 1000) (h : Row9 w base v (marks n)) :
    Calls Tryd.prog 13 #[v, .int .i64 1] w fun e w' => e = .returned (.int .i64 (1 + n)) ∧ Below w.heap.size w w' := by
  rcases h.form with ⟨rfl, hL⟩ | ⟨g, cap, rfl, hg, _, hc⟩
  · have : n = 0 := by rw [← marks_len n, hL]; rfl
    subst this
    exact (held_nil w none 0).mono fun e w' ⟨he, hb⟩ => ⟨by rw [he]; rfl, hb⟩
  · rw [marks_len] at hc ⊢
    exact held_some n g cap w hn hg fun i hi => by rw [(hc i hi).1, marks_at n i hi]

theorem mark_nil (w : World) (ao : Option Addr) (ca : Nat) :
    Calls Tryd.prog 12 #[.slice ao 0 ca, .int .i64 1] w fun e w' => e = .returned (.int .i64 1) ∧ w' = w := by
  go_enter Tryd.func12, Tryd.ntmps12
  go_wp2
  go_loop [1, 5] (fun k i => k = .int .i64 1 ∧ i = .int .i64 0) (fun _ _ => 0)
  case atStart => exact ⟨rfl, rfl⟩
  case round =>
    obtain ⟨rfl, rfl⟩ := hrel
    go_wp2
    go_ret
    exact ⟨rfl, rfl⟩

/-- the first m marked -/
def markTo (L : List ByteArray) (m : Nat) : List ByteArray := marks m ++ L.drop m
theorem markTo_len (L : List ByteArray) (m : Nat) (h : m ≤ L.length) : (markTo L m).length = L.length := by simp [markTo, marks_len]; omega
theorem markTo_next (L : List ByteArray) (m : Nat) (h : m < L.length) : markTo L (m + 1) = (markTo L m).set m (mk (m + 1)) := by
  unfold markTo
  rw [List.set_append_right _ _ (by rw [marks_len]; exact Nat.le_refl _), marks_len, Nat.sub_self]
  simp [marks, List.range_succ]
  rw [List.drop_eq_getElem_cons h]; rfl
theorem markTo_end (L : List ByteArray) : markTo L L.length = marks L.length := by simp [markTo]

set_option maxRecDepth 100000 in
set_option maxHeartbeats 1000000 in
theorem mark_some (L : List ByteArray) (g cap base : Nat) (w : World) (hn : L.length ≤ 1000) (h : Row9 w base (.slice (some ⟨g, 0, none⟩) L.length cap) L) :
    Calls Tryd.prog 12 #[.slice (some ⟨g, 0, none⟩) L.length cap, .int .i64 1] w fun e w' => e = .returned (.int .i64 (1 + L.length)) ∧ Row9 w' base (.slice (some ⟨g, 0, none⟩) L.length cap) (marks L.length) ∧ w.grownBy w' (some g) := by
  go_enter Tryd.func12, Tryd.ntmps12
  go_wp2
  go_loopw [1, 5] (fun k i wr => ∃ m : Nat, m ≤ L.length ∧ k = .int .i64 ((m + 1 : Nat) : Int) ∧ i = .int .i64 m ∧ Row9 wr base (.slice (some ⟨g, 0, none⟩) L.length cap) (markTo L m) ∧ w.grownBy wr (some g)) (fun _ i _ => L.length - (intOf i).toNat)
  case atStart => exact ⟨0, Nat.zero_le _, rfl, rfl, by simpa [markTo, marks] using h, ⟨rfl, rfl, rfl, Nat.le_refl _, fun _ _ _ => rfl⟩⟩
  case round =>
    obtain ⟨m, hm, rfl, rfl, hrow, hgr⟩ := hrel
    by_cases hlt : (m : Int) < L.length
    · have q0 : (0 : Int) ≤ (m : Int) := by omega
      have hmk : ∀ W : World, Calls Tryd.prog 22 #[.int .i64 ((m : Int) + 1)] W fun e w' => e = .returned (.string (mk (m + 1))) ∧ Below W.heap.size W w' := fun W => by
        have := markText_any (m + 1) W (by omega) (by omega)
        simpa using this
      have HK : Hid _ := hmk
      have HR : Hid (Row9 wr base (.slice (some ⟨g, 0, none⟩) L.length cap) (markTo L m)) := hrow
      clear hmk h hrow
      have hml := markTo_len L m hm
      have HL : Hid ((markTo L m).length = L.length) := hml
      clear hml
      go_wp2_with (go_at_call 22; (refine (HK.out _).mono ?_; rintro e w' ⟨rfl, hb⟩; have hca := (Row9.cellAt (HR.out.below hb) m (by rw [HL.out]; omega)).1; have hfz := (Row9.cellAt (HR.out.below hb) m (by rw [HL.out]; omega)).2))
      go_roundw
      case rel =>
        have hR := HR.out.below hb
        have hst := World.ownsRow.stored (show w'.ownsRow base 9 1 (.slice (some ⟨g, 0, none⟩) L.length cap) L.length ((markTo L m).map Value.string) from by have := hR; unfold Row9 at this; rw [HL.out] at this; exact this) m (.string (mk (m + 1)))
        refine ⟨m + 1, by omega, by go_num, by go_num, ?_, ?_⟩
        · unfold Row9
          rw [markTo_len L (m + 1) (by omega), markTo_next L m (by omega), List.map_set]
          exact hst.1
        · exact grown_trans hgr (grown_trans (grown_any (below_grown hb)) hst.2)
      case measure => simp [intOf]; omega
    · have hmn : m = L.length := by omega
      subst hmn
      rw [markTo_end] at hrow
      go_wp2
      go_ret
      exact ⟨ret_int (by omega), hrow, hgr⟩

theorem mark_any {base : Nat} {v : Value} {w : World} {L : List ByteArray} (hn : L.length ≤ 1000) (h : Row9 w base v L) :
    Calls Tryd.prog 12 #[v, .int .i64 1] w fun e w' => e = .returned (.int .i64 (1 + L.length)) ∧ Row9 w' base v (marks L.length) ∧ w.grownBy w' v.ownBlock := by
  rcases h.form with ⟨rfl, rfl⟩ | ⟨g, cap, rfl, hg, _, hc⟩
  · exact (mark_nil w none 0).mono fun e w' ⟨he, hw⟩ => ⟨by rw [he]; rfl, Row9.nil _ _, by rw [hw]; exact ⟨rfl, rfl, rfl, Nat.le_refl _, fun _ _ _ => rfl⟩⟩
  · exact mark_some L g cap base w hn h

theorem eq_nil (w : World) (ao bo : Option Addr) (ca cb : Nat) :
    Calls Tryd.prog 11 #[.slice ao 0 ca, .slice bo 0 cb] w fun e w' => e = .returned (.bool true) ∧ Below w.heap.size w w' := by
  go_enter Tryd.func11, Tryd.ntmps11
  go_wp2
  go_loop [5] (fun i => i = .int .i64 0) (fun _ => 0)
  case atStart => rfl
  case round =>
    subst hrel
    go_wp2
    go_ret
    exact ⟨rfl, Below.refl _ _⟩

set_option maxRecDepth 100000 in
set_option maxHeartbeats 1000000 in
theorem eq_some (L : List ByteArray) (g h ca cb : Nat) (w : World) (hn : L.length ≤ 1000) (hg : ∀ i, i < L.length → w.cell? ⟨g, i, none⟩ = some (.string (L.getD i ByteArray.empty))) (hh : ∀ i, i < L.length → w.cell? ⟨h, i, none⟩ = some (.string (L.getD i ByteArray.empty))) :
    Calls Tryd.prog 11 #[.slice (some ⟨g, 0, none⟩) L.length ca, .slice (some ⟨h, 0, none⟩) L.length cb] w fun e w' => e = .returned (.bool true) ∧ Below w.heap.size w w' := by
  go_enter Tryd.func11, Tryd.ntmps11
  go_wp2
  go_loopw [5] (fun i wr => ∃ m : Nat, m ≤ L.length ∧ i = .int .i64 m ∧ ∃ q, wr = w.drewN q) (fun i _ => L.length - (intOf i).toNat)
  case atStart => exact ⟨0, Nat.zero_le _, rfl, 0, rfl⟩
  case round =>
    obtain ⟨m, hm, rfl, q, rfl⟩ := hrel
    by_cases hlt : (m : Int) < L.length
    · have q0 : (0 : Int) ≤ (m : Int) := by omega
      obtain ⟨x, hx⟩ : ∃ x, x = L.getD m ByteArray.empty := ⟨_, rfl⟩
      have cg : w.cell? ⟨g, m, none⟩ = some (.string x) := by rw [hx]; exact hg m (by omega)
      have ch : w.cell? ⟨h, m, none⟩ = some (.string x) := by rw [hx]; exact hh m (by omega)
      clear hx hg hh
      go_wp2
      go_quiet (fail)
      go_wp2
      go_roundw
      case rel => exact ⟨m + 1, by omega, by go_num, _, rfl⟩
      case measure => simp [intOf]; omega
    · go_wp2
      go_ret
      exact ⟨rfl, below_drewN (Below.refl _ _) _⟩

/-- two rows of the same texts are told to be so -/
theorem eq_any {ba bb : Nat} {a b : Value} {w : World} {L : List ByteArray} (hn : L.length ≤ 1000) (ha : Row9 w ba a L) (hb : Row9 w bb b L) :
    Calls Tryd.prog 11 #[a, b] w fun e w' => e = .returned (.bool true) ∧ Below w.heap.size w w' := by
  rcases ha.form with ⟨rfl, rfl⟩ | ⟨g, ca, rfl, _, _, hg⟩
  · rcases hb.form with ⟨rfl, _⟩ | ⟨h, cb, rfl, _, _, _⟩
    · exact eq_nil w none none 0 0
    · exact eq_nil w none (some ⟨h, 0, none⟩) 0 cb
  · rcases hb.form with ⟨rfl, rfl⟩ | ⟨h, cb, rfl, _, _, hh⟩
    · exact eq_nil w (some ⟨g, 0, none⟩) none ca 0
    · exact eq_some L g h ca cb w hn (fun i hi => (hg i hi).1) (fun i hi => (hh i hi).1)
end Go.Proofs.YtnghhfgbobpnkahDoor
