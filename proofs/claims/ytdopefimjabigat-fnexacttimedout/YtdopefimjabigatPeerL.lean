/-
  The contracts of the laws' own helpers over replicas: how great one is, its copy, two held against each other. (Made by gp9.py.)
-/
import Derived.Test.YtdopefimjabigatPeerX
import Derived.Test.YtdopefimjabigatCellL
import Derived.Test.YtdopefimjabigatCellM
import Derived.Test.YtdopefimjabigatUndosL
import Derived.Test.YtdopefimjabigatUndosM
import Derived.Test.YtdopefimjabigatIntsM
namespace Go.Proofs.Ytdopefimjabigat
open Go.RowKit Num

theorem szu_le (l : List UN) : ∀ left : Int, 0 ≤ szu l left → szu l left ≤ left := by
  induction l with
  | nil => intro left _; exact Int.le_refl _
  | cons c l ih =>
    intro left h
    unfold szu at h ⊢
    split at h
    · omega
    · rename_i hn
      rw [if_neg hn]
      have := ih _ h
      omega
theorem szUndos_le {l : List UN} {left : Int} (h : 0 ≤ szUndosC l left) : szUndosC l left + (l.length : Int) ≤ left := by
  unfold szUndosC at h ⊢
  split at h
  · omega
  · rename_i hn
    rw [if_neg hn]
    have := szu_le l _ h
    omega

theorem szCells_le {cs : CL} {left : Int} (hl : left ≤ 1048576) (h : 0 ≤ szCells cs left) : szCells cs left + (cs.length : Int) ≤ left := by
  unfold szCells at h ⊢
  split at h
  · omega
  · rename_i hn
    rw [if_neg hn]
    have := (szc_bd cs _ (by omega) h).1
    omega

/-- what szPeer tells -/
def SzP (p : PE) (left z : Int) : Prop := z = -1 ∨ (0 ≤ z ∧ z + ((p.row.length : Int) + p.cells.length + p.early.length + p.undos.length + p.votes.length + p.news.length) ≤ left ∧ smallPe p)

set_option maxRecDepth 100000 in
set_option maxHeartbeats 4000000 in
theorem szPeer_any (p : PE) (s : PV) (left : Int) (w : World) (h0 : 0 ≤ left) (h1 : left ≤ 1048576) (hR : PeerR w p s) (hg : goodPe p) :
    Calls Try.prog 4 #[peerV p s, .int .i64 left] w fun e w' => ∃ z, e = .returned (.int .i64 z) ∧ SzP p left z ∧ Below w.heap.size w w' := by
  obtain ⟨id, view, ⟨hh0, hh1, hh2, hh3⟩, ⟨l0, l1, l2, l3⟩, ⟨a0, a1, a2, a3⟩, row, cells, early, undos, votes, news, shown⟩ := p
  have HR := hid hR
  clear hR
  have HG := hid hg
  clear hg
  obtain ⟨svr, svc, sve, svu, svv, svn⟩ := s
  obtain ⟨sar, scr, ser, -⟩ := HR.out.row
  change svr = _ at ser
  subst ser
  obtain ⟨sac, scc, sec, -⟩ := HR.out.cells
  change svc = _ at sec
  subst sec
  obtain ⟨sae, sce, see, -⟩ := HR.out.early
  change sve = _ at see
  subst see
  obtain ⟨sau, scu, seu, -⟩ := HR.out.undos
  change svu = _ at seu
  subst seu
  obtain ⟨sav, scv, sev, -⟩ := HR.out.votes
  change svv = _ at sev
  subst sev
  obtain ⟨san, scn, sen, -⟩ := HR.out.news
  change svn = _ at sen
  subst sen
  unfold peerV peerA
  simp only
  obtain ⟨W, hW⟩ : ∃ W, W = w.alloc (.cells #[.int .i64 id, .int .i64 view, .int .i64 hh0, .int .i64 hh1, .int .i64 hh2, .int .i64 hh3, .int .i64 l0, .int .i64 l1, .int .i64 l2, .int .i64 l3, .int .i64 a0, .int .i64 a1, .int .i64 a2, .int .i64 a3, .slice sar row.length scr, .slice sac cells.length scc, .slice sae early.length sce, .slice sau undos.length scu, .slice sav votes.length scv, .slice san news.length scn, .int .i64 shown] 32) := ⟨_, rfl⟩
  have HB0 : Hid (Below w.heap.size w W) := (by rw [hW]; exact ba (Below.refl _ _) _ : Below w.heap.size w W)
  have HK0 : Hid (W.heap[w.heap.size]? = some (.cells #[.int .i64 id, .int .i64 view, .int .i64 hh0, .int .i64 hh1, .int .i64 hh2, .int .i64 hh3, .int .i64 l0, .int .i64 l1, .int .i64 l2, .int .i64 l3, .int .i64 a0, .int .i64 a1, .int .i64 a2, .int .i64 a3, .slice sar row.length scr, .slice sac cells.length scc, .slice sae early.length sce, .slice sau undos.length scu, .slice sav votes.length scv, .slice san news.length scn, .int .i64 shown] 32 (0, 0))) := (by rw [hW]; exact heap_alloc_new w _ : W.heap[w.heap.size]? = _)
  go_enter Try.func4, Try.ntmps4
  have c := blk_cell HK0.out 14 (.slice sar row.length scr) rfl
  rw [hW] at c
  go_wp2_with fail
  rw [← hW]
  clear hW
  clear c
  refine (szInts_any row.length scr sar left W h0 h1 HG.out.lrow).mono ?_
  rintro e w1 ⟨rfl, hw⟩
  obtain rfl := hw.symm
  clear hw
  have HB1 : Hid (Below w.heap.size w _) := HB0.out
  have HK1 := hid HK0.out
  by_cases k0 : left - (row.length : Int) < 0
  · rw [if_pos k0]
    go_wp2
    go_ret
    exact ⟨-1, rfl, Or.inl rfl, HB1.out⟩
  rw [if_neg k0]
  obtain ⟨z1, hz⟩ : ∃ z1, z1 = left - (row.length : Int) := ⟨_, rfl⟩
  have HS0 : Hid ((row.length : Int) ≤ 1048576) := (by have := h1; omega : (row.length : Int) ≤ 1048576)
  have HF1 : Hid (0 ≤ z1 ∧ z1 + ((row.length : Int)) ≤ left ∧ z1 ≤ 1048576) := (by rw [hz]; omega : 0 ≤ z1 ∧ z1 + ((row.length : Int)) ≤ left ∧ z1 ≤ 1048576)
  rw [← hz]
  clear hz k0
  have q : 0 ≤ z1 := HF1.out.1
  have c := blk_cell HK1.out 15 (.slice sac cells.length scc) rfl
  go_wp2_with fail
  clear c
  refine (szCells_any cells _ z1 W HF1.out.1 HF1.out.2.2 (HR.out.cells.below HB1.out) (by have := HG.out.lcells; unfold maxLen at this; simp only at this; omega) (fun c hc => by have := HG.out.kcells c hc; unfold maxLen at this; omega)).mono ?_
  rintro e w2 ⟨rfl, hb⟩
  have HB2 : Hid (Below w.heap.size w w2) := bt HB1.out hb
  have HK2 : Hid (w2.heap[w.heap.size]? = some (.cells #[.int .i64 id, .int .i64 view, .int .i64 hh0, .int .i64 hh1, .int .i64 hh2, .int .i64 hh3, .int .i64 l0, .int .i64 l1, .int .i64 l2, .int .i64 l3, .int .i64 a0, .int .i64 a1, .int .i64 a2, .int .i64 a3, .slice sar row.length scr, .slice sac cells.length scc, .slice sae early.length sce, .slice sau undos.length scu, .slice sav votes.length scv, .slice san news.length scn, .int .i64 shown] 32 (0, 0))) := (hb.block _ (Array.getElem?_eq_some_iff.1 HK1.out).1).trans HK1.out
  clear hb
  by_cases k1 : szCells cells z1 < 0
  · go_wp2
    go_ret
    exact ⟨-1, rfl, Or.inl rfl, HB2.out⟩
  obtain ⟨z2, hz⟩ : ∃ z2, z2 = szCells cells z1 := ⟨_, rfl⟩
  have HS1 : Hid ((cells.length : Int) ≤ 1048576 ∧ ∀ c ∈ cells, (c.1.size : Int) ≤ 1048576) := (by have := szCells_bd HF1.out.2.2 (show 0 ≤ szCells cells z1 by omega); exact ⟨this.1, this.2.2⟩ : (cells.length : Int) ≤ 1048576 ∧ ∀ c ∈ cells, (c.1.size : Int) ≤ 1048576)
  have HF2 : Hid (0 ≤ z2 ∧ z2 + ((row.length : Int) + cells.length) ≤ left ∧ z2 ≤ 1048576) := (by rw [hz]; have := szCells_le HF1.out.2.2 (show 0 ≤ szCells cells z1 by omega); have := HF1.out; omega : 0 ≤ z2 ∧ z2 + ((row.length : Int) + cells.length) ≤ left ∧ z2 ≤ 1048576)
  rw [← hz]
  clear hz k1
  have q : 0 ≤ z2 := HF2.out.1
  have c := blk_cell HK2.out 16 (.slice sae early.length sce) rfl
  go_wp2_with fail
  clear c
  refine (szInts_any early.length sce sae z2 w2 HF2.out.1 HF2.out.2.2 HG.out.learly).mono ?_
  rintro e w3 ⟨rfl, hw⟩
  obtain rfl := hw.symm
  clear hw
  have HB3 : Hid (Below w.heap.size w _) := HB2.out
  have HK3 := hid HK2.out
  by_cases k2 : z2 - (early.length : Int) < 0
  · rw [if_pos k2]
    go_wp2
    go_ret
    exact ⟨-1, rfl, Or.inl rfl, HB3.out⟩
  rw [if_neg k2]
  obtain ⟨z3, hz⟩ : ∃ z3, z3 = z2 - (early.length : Int) := ⟨_, rfl⟩
  have HS2 : Hid ((early.length : Int) ≤ 1048576) := (by have := HF2.out.2.2; omega : (early.length : Int) ≤ 1048576)
  have HF3 : Hid (0 ≤ z3 ∧ z3 + ((row.length : Int) + cells.length + early.length) ≤ left ∧ z3 ≤ 1048576) := (by rw [hz]; have := HF2.out; omega : 0 ≤ z3 ∧ z3 + ((row.length : Int) + cells.length + early.length) ≤ left ∧ z3 ≤ 1048576)
  rw [← hz]
  clear hz k2
  have q : 0 ≤ z3 := HF3.out.1
  have c := blk_cell HK3.out 17 (.slice sau undos.length scu) rfl
  go_wp2_with fail
  clear c
  refine (szUndos_any undos _ z3 w2 HF3.out.1 HF3.out.2.2 (HR.out.undos.below HB3.out) (by have := HG.out.lundos; unfold maxLen at this; simp only at this; omega) (fun c hc => by have := (HG.out.gundos c hc).1; unfold maxLen at this; omega)).mono ?_
  rintro e w4 ⟨rfl, hb⟩
  have HB4 : Hid (Below w.heap.size w w4) := bt HB3.out hb
  have HK4 : Hid (w4.heap[w.heap.size]? = some (.cells #[.int .i64 id, .int .i64 view, .int .i64 hh0, .int .i64 hh1, .int .i64 hh2, .int .i64 hh3, .int .i64 l0, .int .i64 l1, .int .i64 l2, .int .i64 l3, .int .i64 a0, .int .i64 a1, .int .i64 a2, .int .i64 a3, .slice sar row.length scr, .slice sac cells.length scc, .slice sae early.length sce, .slice sau undos.length scu, .slice sav votes.length scv, .slice san news.length scn, .int .i64 shown] 32 (0, 0))) := (hb.block _ (Array.getElem?_eq_some_iff.1 HK3.out).1).trans HK3.out
  clear hb
  by_cases k3 : szUndosC undos z3 < 0
  · go_wp2
    go_ret
    exact ⟨-1, rfl, Or.inl rfl, HB4.out⟩
  obtain ⟨z4, hz⟩ : ∃ z4, z4 = szUndosC undos z3 := ⟨_, rfl⟩
  have HS3 : Hid ((undos.length : Int) ≤ 1048576 ∧ ∀ c ∈ undos, (c.1.size : Int) ≤ 1048576) := (szUndos_bd HF3.out.2.2 (show 0 ≤ szUndosC undos z3 by omega) : (undos.length : Int) ≤ 1048576 ∧ ∀ c ∈ undos, (c.1.size : Int) ≤ 1048576)
  have HF4 : Hid (0 ≤ z4 ∧ z4 + ((row.length : Int) + cells.length + early.length + undos.length) ≤ left ∧ z4 ≤ 1048576) := (by rw [hz]; have := szUndos_le (show 0 ≤ szUndosC undos z3 by omega); have := HF3.out; omega : 0 ≤ z4 ∧ z4 + ((row.length : Int) + cells.length + early.length + undos.length) ≤ left ∧ z4 ≤ 1048576)
  rw [← hz]
  clear hz k3
  have q : 0 ≤ z4 := HF4.out.1
  have c := blk_cell HK4.out 18 (.slice sav votes.length scv) rfl
  go_wp2_with fail
  clear c
  refine (szVotes_any votes.length scv sav z4 w4 HF4.out.1 HF4.out.2.2 HG.out.lvotes).mono ?_
  rintro e w5 ⟨rfl, hw⟩
  obtain rfl := hw.symm
  clear hw
  have HB5 : Hid (Below w.heap.size w _) := HB4.out
  have HK5 := hid HK4.out
  by_cases k4 : z4 - (votes.length : Int) < 0
  · rw [if_pos k4]
    go_wp2
    go_ret
    exact ⟨-1, rfl, Or.inl rfl, HB5.out⟩
  rw [if_neg k4]
  obtain ⟨z5, hz⟩ : ∃ z5, z5 = z4 - (votes.length : Int) := ⟨_, rfl⟩
  have HS4 : Hid ((votes.length : Int) ≤ 1048576) := (by have := HF4.out.2.2; omega : (votes.length : Int) ≤ 1048576)
  have HF5 : Hid (0 ≤ z5 ∧ z5 + ((row.length : Int) + cells.length + early.length + undos.length + votes.length) ≤ left ∧ z5 ≤ 1048576) := (by rw [hz]; have := HF4.out; omega : 0 ≤ z5 ∧ z5 + ((row.length : Int) + cells.length + early.length + undos.length + votes.length) ≤ left ∧ z5 ≤ 1048576)
  rw [← hz]
  clear hz k4
  have q : 0 ≤ z5 := HF5.out.1
  have c := blk_cell HK5.out 19 (.slice san news.length scn) rfl
  go_wp2_with fail
  clear c
  refine (szLetters_any news.length scn san z5 w4 HF5.out.1 HF5.out.2.2 HG.out.lnews).mono ?_
  rintro e w6 ⟨rfl, hw⟩
  obtain rfl := hw.symm
  clear hw
  have HB6 : Hid (Below w.heap.size w _) := HB5.out
  have HK6 := hid HK5.out
  by_cases k5 : z5 - (news.length : Int) < 0
  · rw [if_pos k5]
    go_wp2
    go_ret
    exact ⟨-1, rfl, Or.inl rfl, HB6.out⟩
  rw [if_neg k5]
  obtain ⟨z6, hz⟩ : ∃ z6, z6 = z5 - (news.length : Int) := ⟨_, rfl⟩
  have HS5 : Hid ((news.length : Int) ≤ 1048576) := (by have := HF5.out.2.2; omega : (news.length : Int) ≤ 1048576)
  have HF6 : Hid (0 ≤ z6 ∧ z6 + ((row.length : Int) + cells.length + early.length + undos.length + votes.length + news.length) ≤ left ∧ z6 ≤ 1048576) := (by rw [hz]; have := HF5.out; omega : 0 ≤ z6 ∧ z6 + ((row.length : Int) + cells.length + early.length + undos.length + votes.length + news.length) ≤ left ∧ z6 ≤ 1048576)
  rw [← hz]
  clear hz k5
  have q : 0 ≤ z6 := HF6.out.1
  go_wp2
  go_ret
  exact ⟨_, rfl, Or.inr ⟨HF6.out.1, HF6.out.2.1, ⟨HS0.out, HS1.out.1, HS2.out, HS3.out.1, HS4.out, HS5.out, HS1.out.2, HS3.out.2⟩⟩, HB6.out⟩

/-- a row of its own that lies from lo on, ahead of hi -/
def In (lo hi : Nat) (w : World) (e : TypeId) (m : Nat) (v : Value) (n : Nat) (xs : List Value) : Prop := w.ownsRow lo e m v n xs ∧ ∀ g, v.ownBlock = some g → g < hi
theorem In.below {lo hi : Nat} {w w' : World} {e : TypeId} {m : Nat} {v : Value} {n : Nat} {xs : List Value} (h : In lo hi w e m v n xs) (hb : Below w.heap.size w w') : In lo hi w' e m v n xs := ⟨own_kept h.1 hb, h.2⟩
theorem In.far {lo hi : Nat} {w w' : World} {e : TypeId} {m : Nat} {v : Value} {n : Nat} {xs : List Value} {N : Nat} (h : In lo hi w e m v n xs) (hg : w.grownBy w' (some N)) (hN : N < lo ∨ hi ≤ N) : In lo hi w' e m v n xs := by
  refine ⟨World.ownsRow.kept h.1 hg ?_, h.2⟩
  cases e2 : v.ownBlock with
  | none => exact Or.inl rfl
  | some g => exact Or.inr fun e3 => by have e3 := Option.some.inj e3; have := (h.1.lt g e2).1; have := h.2 g e2; omega
/-- a replica whose lists are rows of their own, all of them apart -/
structure OwnP (base : Nat) (w : World) (p : PE) (s : PV) : Prop where
  ex : ∃ b1 b2 b3 b4 b5 b6, (base ≤ b1 ∧ b1 ≤ b2 ∧ b2 ≤ b3 ∧ b3 ≤ b4 ∧ b4 ≤ b5 ∧ b5 ≤ b6 ∧ b6 ≤ w.heap.size) ∧ In base b1 w 3 1 s.row p.row.length (flatR intF p.row) ∧ In b1 b2 w 85 2 s.cells p.cells.length (flat p.cells) ∧
    In b2 b3 w 3 1 s.early p.early.length (flatR intF p.early) ∧ In b3 b4 w 87 3 s.undos p.undos.length (flatR undoF p.undos) ∧ In b4 b5 w 35 4 s.votes p.votes.length (flatR voteF p.votes) ∧ In b5 b6 w 43 13 s.news p.news.length (flatR letF p.news)
theorem OwnP.reads {base : Nat} {w : World} {p : PE} {s : PV} (h : OwnP base w p s) : PeerR w p s := by
  obtain ⟨b1, b2, b3, b4, b5, b6, _, r0, r1, r2, r3, r4, r5⟩ := h.ex
  exact ⟨rows_of_own intF_len r0.1, cells_of_own r1.1, rows_of_own intF_len r2.1, rows_of_own undoF_len r3.1, rows_of_own voteF_len r4.1, rows_of_own letF_len r5.1⟩
theorem OwnP.below {base : Nat} {w w' : World} {p : PE} {s : PV} (h : OwnP base w p s) (hb : Below w.heap.size w w') : OwnP base w' p s := by
  obtain ⟨b1, b2, b3, b4, b5, b6, hl, r0, r1, r2, r3, r4, r5⟩ := h.ex
  have := hb.size
  exact ⟨b1, b2, b3, b4, b5, b6, by omega, r0.below hb, r1.below hb, r2.below hb, r3.below hb, r4.below hb, r5.below hb⟩

theorem OwnP.lim {base : Nat} {w : World} {p : PE} {s : PV} (h : OwnP base w p s) : ∃ hi, hi ≤ w.heap.size ∧ ∀ v ∈ [s.row, s.cells, s.early, s.undos, s.votes, s.news], ∀ g, v.ownBlock = some g → g < hi := by
  obtain ⟨b1, b2, b3, b4, b5, b6, hl, r0, r1, r2, r3, r4, r5⟩ := h.ex
  refine ⟨b6, hl.2.2.2.2.2.2, fun v hv g hg => ?_⟩
  simp only [List.mem_cons, List.not_mem_nil, or_false] at hv
  rcases hv with rfl | rfl | rfl | rfl | rfl | rfl
  · have := r0.2 g hg; omega
  · have := r1.2 g hg; omega
  · have := r2.2 g hg; omega
  · have := r3.2 g hg; omega
  · have := r4.2 g hg; omega
  · have := r5.2 g hg; omega
/-- a block above its rows is written -/
theorem OwnP.above {base : Nat} {w w' : World} {p : PE} {s : PV} {N : Nat} (h : OwnP base w p s) (hg : w.grownBy w' (some N)) (hi : Nat) (hN : hi ≤ N) (hb : ∀ v ∈ [s.row, s.cells, s.early, s.undos, s.votes, s.news], ∀ g, v.ownBlock = some g → g < hi) : OwnP base w' p s := by
  obtain ⟨b1, b2, b3, b4, b5, b6, hl, r0, r1, r2, r3, r4, r5⟩ := h.ex
  have K : ∀ (lo hh : Nat) (e : TypeId) (m : Nat) (v : Value) (n : Nat) (xs : List Value), v ∈ [s.row, s.cells, s.early, s.undos, s.votes, s.news] → In lo hh w e m v n xs → In lo hh w' e m v n xs := fun lo hh e m v n xs hv hI => by
    refine ⟨World.ownsRow.kept hI.1 hg ?_, hI.2⟩
    cases e2 : v.ownBlock with
    | none => exact Or.inl rfl
    | some g => exact Or.inr fun e3 => by have e3 := Option.some.inj e3; have := hb v hv g e2; omega
  have := hg.size
  exact ⟨b1, b2, b3, b4, b5, b6, by omega, K _ _ _ _ _ _ _ (by simp) r0, K _ _ _ _ _ _ _ (by simp) r1, K _ _ _ _ _ _ _ (by simp) r2, K _ _ _ _ _ _ _ (by simp) r3, K _ _ _ _ _ _ _ (by simp) r4, K _ _ _ _ _ _ _ (by simp) r5⟩
/-- .. just made -/
theorem own_farP {base : Nat} {w w' : World} {p : PE} {s : PV} {o : Obj} {N : Nat} (h : OwnP base (w.alloc o) p s) (hg : (w.alloc o).grownBy w' (some N)) (_ : N < (w.alloc o).heap.size) (hl : ∃ hi, hi ≤ N ∧ ∀ v ∈ [s.row, s.cells, s.early, s.undos, s.votes, s.news], ∀ g, v.ownBlock = some g → g < hi) : OwnP base w' p s := by
  obtain ⟨hi, h1, h2⟩ := hl
  exact h.above hg hi h1 h2

set_option maxRecDepth 100000 in
set_option maxHeartbeats 8000000 in
theorem toPeer_any (p : PE) (s : PV) (w : World) (hR : PeerR w p s) (hs : smallPe p) :
    Calls Try.prog 6 #[peerV p s] w fun e w' => ∃ s', e = .returned (peerV p s') ∧ OwnP w.heap.size w' p s' ∧ Below w.heap.size w w' := by
  have HR := hid hR
  have HS := hid hs
  clear hR hs
  obtain ⟨id, view, ⟨h0, h1, h2, h3⟩, ⟨l0, l1, l2, l3⟩, ⟨a0, a1, a2, a3⟩, row, cells, early, undos, votes, news, shown⟩ := p
  obtain ⟨svr, svc, sve, svu, svv, svn⟩ := s
  obtain ⟨sar, scr, ser, -⟩ := HR.out.row
  change svr = _ at ser
  subst ser
  obtain ⟨sac, scc, sec, -⟩ := HR.out.cells
  change svc = _ at sec
  subst sec
  obtain ⟨sae, sce, see, -⟩ := HR.out.early
  change sve = _ at see
  subst see
  obtain ⟨sau, scu, seu, -⟩ := HR.out.undos
  change svu = _ at seu
  subst seu
  obtain ⟨sav, scv, sev, -⟩ := HR.out.votes
  change svv = _ at sev
  subst sev
  obtain ⟨san, scn, sen, -⟩ := HR.out.news
  change svn = _ at sen
  subst sen
  unfold peerV peerA
  simp only
  obtain ⟨W, hW⟩ : ∃ W, W = ((w.alloc (.cells #[.int .i64 id, .int .i64 view, .int .i64 h0, .int .i64 h1, .int .i64 h2, .int .i64 h3, .int .i64 l0, .int .i64 l1, .int .i64 l2, .int .i64 l3, .int .i64 a0, .int .i64 a1, .int .i64 a2, .int .i64 a3, .slice sar row.length scr, .slice sac cells.length scc, .slice sae early.length sce, .slice sau undos.length scu, .slice sav votes.length scv, .slice san news.length scn, .int .i64 shown] 32)).alloc (.cells #[.int .i64 0, .int .i64 0, .int .i64 0, .int .i64 0, .int .i64 0, .int .i64 0, .int .i64 0, .int .i64 0, .int .i64 0, .int .i64 0, .int .i64 0, .int .i64 0, .int .i64 0, .int .i64 0, .slice none 0 0, .slice none 0 0, .slice none 0 0, .slice none 0 0, .slice none 0 0, .slice none 0 0, .int .i64 0] 41)).alloc (.cells #[.int .i64 id, .int .i64 view, .int .i64 0, .int .i64 0, .int .i64 0, .int .i64 0, .int .i64 0, .int .i64 0, .int .i64 0, .int .i64 0, .int .i64 0, .int .i64 0, .int .i64 0, .int .i64 0, .slice none 0 0, .slice none 0 0, .slice none 0 0, .slice none 0 0, .slice none 0 0, .slice none 0 0, .int .i64 0] 41) := ⟨_, rfl⟩
  have HB0 : Hid (Below w.heap.size w W) := (by rw [hW]; exact ba (ba (ba (Below.refl _ _) _) _) _ : Below w.heap.size w W)
  have HA0 : Hid (W.heap[w.heap.size]? = some (.cells #[.int .i64 id, .int .i64 view, .int .i64 h0, .int .i64 h1, .int .i64 h2, .int .i64 h3, .int .i64 l0, .int .i64 l1, .int .i64 l2, .int .i64 l3, .int .i64 a0, .int .i64 a1, .int .i64 a2, .int .i64 a3, .slice sar row.length scr, .slice sac cells.length scc, .slice sae early.length sce, .slice sau undos.length scu, .slice sav votes.length scv, .slice san news.length scn, .int .i64 shown] 32 (0, 0))) := (by rw [hW]; exact (alloc3 w _ _ _).1 : W.heap[w.heap.size]? = _)
  have HZ0 : Hid (W.heap[w.heap.size + 1]? = some (.cells #[.int .i64 0, .int .i64 0, .int .i64 0, .int .i64 0, .int .i64 0, .int .i64 0, .int .i64 0, .int .i64 0, .int .i64 0, .int .i64 0, .int .i64 0, .int .i64 0, .int .i64 0, .int .i64 0, .slice none 0 0, .slice none 0 0, .slice none 0 0, .slice none 0 0, .slice none 0 0, .slice none 0 0, .int .i64 0] 41 (0, 0))) := (by rw [hW]; exact (alloc3 w _ _ _).2.1 : W.heap[w.heap.size + 1]? = _)
  have HO0 : Hid (W.heap[w.heap.size + 1 + 1]? = some (.cells #[.int .i64 id, .int .i64 view, .int .i64 0, .int .i64 0, .int .i64 0, .int .i64 0, .int .i64 0, .int .i64 0, .int .i64 0, .int .i64 0, .int .i64 0, .int .i64 0, .int .i64 0, .int .i64 0, .slice none 0 0, .slice none 0 0, .slice none 0 0, .slice none 0 0, .slice none 0 0, .slice none 0 0, .int .i64 0] 41 (0, 0))) := (by rw [hW]; exact (alloc3 w _ _ _).2.2 : W.heap[w.heap.size + 1 + 1]? = _)
  have HL0 : Hid (w.heap.size + 1 + 1 < W.heap.size) := (Array.getElem?_eq_some_iff.1 HO0.out).1
  go_enter Try.func6, Try.ntmps6
  have c2 := blk_cell HA0.out 2 (.int .i64 h0) rfl
  have c3 := blk_cell HA0.out 3 (.int .i64 h1) rfl
  have c4 := blk_cell HA0.out 4 (.int .i64 h2) rfl
  have c5 := blk_cell HA0.out 5 (.int .i64 h3) rfl
  rw [hW] at c2 c3 c4 c5
  go_wp2_with fail
  rw [← hW]
  clear hW c2 c3 c4 c5
  refine (toQ4_any h0 h1 h2 h3 W).mono ?_
  rintro e x1 ⟨rfl, hb⟩
  have HBa : Hid (Below w.heap.size w x1) := bt HB0.out hb
  have HAa : Hid (x1.heap[w.heap.size]? = some (.cells #[.int .i64 id, .int .i64 view, .int .i64 h0, .int .i64 h1, .int .i64 h2, .int .i64 h3, .int .i64 l0, .int .i64 l1, .int .i64 l2, .int .i64 l3, .int .i64 a0, .int .i64 a1, .int .i64 a2, .int .i64 a3, .slice sar row.length scr, .slice sac cells.length scc, .slice sae early.length sce, .slice sau undos.length scu, .slice sav votes.length scv, .slice san news.length scn, .int .i64 shown] 32 (0, 0))) := (hb.block _ (by have := HL0.out; omega)).trans HA0.out
  have HZa : Hid (x1.heap[w.heap.size + 1]? = some (.cells #[.int .i64 0, .int .i64 0, .int .i64 0, .int .i64 0, .int .i64 0, .int .i64 0, .int .i64 0, .int .i64 0, .int .i64 0, .int .i64 0, .int .i64 0, .int .i64 0, .int .i64 0, .int .i64 0, .slice none 0 0, .slice none 0 0, .slice none 0 0, .slice none 0 0, .slice none 0 0, .slice none 0 0, .int .i64 0] 41 (0, 0))) := (hb.block _ (by have := HL0.out; omega)).trans HZ0.out
  have HOa : Hid (x1.heap[w.heap.size + 1 + 1]? = some (.cells #[.int .i64 id, .int .i64 view, .int .i64 0, .int .i64 0, .int .i64 0, .int .i64 0, .int .i64 0, .int .i64 0, .int .i64 0, .int .i64 0, .int .i64 0, .int .i64 0, .int .i64 0, .int .i64 0, .slice none 0 0, .slice none 0 0, .slice none 0 0, .slice none 0 0, .slice none 0 0, .slice none 0 0, .int .i64 0] 41 (0, 0))) := (hb.block _ (by have := HL0.out; omega)).trans HO0.out
  have HLa : Hid (W.heap.size ≤ x1.heap.size ∧ w.heap.size + 1 + 1 < x1.heap.size) := ⟨hb.size, Nat.lt_of_lt_of_le HL0.out hb.size⟩
  clear hb HB0 HA0 HZ0 HO0
  go_wp2_with (refine wpList_store_part rfl _ _ _ rfl (w.heap.size + 1 + 1) 2 #[.int .i64 h0, .int .i64 h1, .int .i64 h2, .int .i64 h3] rfl rfl _ _ HOa.out (by kernel_rfl) (by simp) (by simp [Value.oneCell']) #[.int .i64 id, .int .i64 view, .int .i64 h0, .int .i64 h1, .int .i64 h2, .int .i64 h3, .int .i64 0, .int .i64 0, .int .i64 0, .int .i64 0, .int .i64 0, .int .i64 0, .int .i64 0, .int .i64 0, .slice none 0 0, .slice none 0 0, .slice none 0 0, .slice none 0 0, .slice none 0 0, .slice none 0 0, .int .i64 0] rfl ?_; intro y1 hg hk; have HB1 : Hid (Below w.heap.size w y1) := HBa.out.grown hg HBa.out.size (fun y hy => by cases hy; omega); have HA1 : Hid (y1.heap[w.heap.size]? = Option.some (.cells #[.int .i64 id, .int .i64 view, .int .i64 h0, .int .i64 h1, .int .i64 h2, .int .i64 h3, .int .i64 l0, .int .i64 l1, .int .i64 l2, .int .i64 l3, .int .i64 a0, .int .i64 a1, .int .i64 a2, .int .i64 a3, .slice sar row.length scr, .slice sac cells.length scc, .slice sae early.length sce, .slice sau undos.length scu, .slice sav votes.length scv, .slice san news.length scn, .int .i64 shown] 32 (0, 0))) := (hg.block _ (Array.getElem?_eq_some_iff.1 HAa.out).1 (fun e => by have := Option.some.inj e; omega)).trans HAa.out; have HZ1 : Hid (y1.heap[w.heap.size + 1]? = Option.some (.cells #[.int .i64 0, .int .i64 0, .int .i64 0, .int .i64 0, .int .i64 0, .int .i64 0, .int .i64 0, .int .i64 0, .int .i64 0, .int .i64 0, .int .i64 0, .int .i64 0, .int .i64 0, .int .i64 0, .slice none 0 0, .slice none 0 0, .slice none 0 0, .slice none 0 0, .slice none 0 0, .slice none 0 0, .int .i64 0] 41 (0, 0))) := (hg.block _ (Array.getElem?_eq_some_iff.1 HZa.out).1 (fun e => by have := Option.some.inj e; omega)).trans HZa.out; have HO1 : Hid (y1.heap[w.heap.size + 1 + 1]? = Option.some (.cells #[.int .i64 id, .int .i64 view, .int .i64 h0, .int .i64 h1, .int .i64 h2, .int .i64 h3, .int .i64 0, .int .i64 0, .int .i64 0, .int .i64 0, .int .i64 0, .int .i64 0, .int .i64 0, .int .i64 0, .slice none 0 0, .slice none 0 0, .slice none 0 0, .slice none 0 0, .slice none 0 0, .slice none 0 0, .int .i64 0] 41 (0, 0))) := hk; have HL1 : Hid (w.heap.size + 1 + 1 < y1.heap.size) := Nat.lt_of_lt_of_le HLa.out.2 hg.size; have HM1 : Hid (W.heap.size ≤ x1.heap.size ∧ x1.heap.size ≤ y1.heap.size) := ⟨HLa.out.1, hg.size⟩; clear hg hk HBa HAa HZa HOa HLa; have c6 := blk_cell HA1.out 6 (.int .i64 l0) rfl; have c7 := blk_cell HA1.out 7 (.int .i64 l1) rfl; have c8 := blk_cell HA1.out 8 (.int .i64 l2) rfl; have c9 := blk_cell HA1.out 9 (.int .i64 l3) rfl)
  clear c6 c7 c8 c9
  refine (toQ4_any l0 l1 l2 l3 y1).mono ?_
  rintro e x2 ⟨rfl, hb⟩
  have HBa : Hid (Below w.heap.size w x2) := bt HB1.out hb
  have HAa : Hid (x2.heap[w.heap.size]? = some (.cells #[.int .i64 id, .int .i64 view, .int .i64 h0, .int .i64 h1, .int .i64 h2, .int .i64 h3, .int .i64 l0, .int .i64 l1, .int .i64 l2, .int .i64 l3, .int .i64 a0, .int .i64 a1, .int .i64 a2, .int .i64 a3, .slice sar row.length scr, .slice sac cells.length scc, .slice sae early.length sce, .slice sau undos.length scu, .slice sav votes.length scv, .slice san news.length scn, .int .i64 shown] 32 (0, 0))) := (hb.block _ (by have := HL1.out; omega)).trans HA1.out
  have HZa : Hid (x2.heap[w.heap.size + 1]? = some (.cells #[.int .i64 0, .int .i64 0, .int .i64 0, .int .i64 0, .int .i64 0, .int .i64 0, .int .i64 0, .int .i64 0, .int .i64 0, .int .i64 0, .int .i64 0, .int .i64 0, .int .i64 0, .int .i64 0, .slice none 0 0, .slice none 0 0, .slice none 0 0, .slice none 0 0, .slice none 0 0, .slice none 0 0, .int .i64 0] 41 (0, 0))) := (hb.block _ (by have := HL1.out; omega)).trans HZ1.out
  have HOa : Hid (x2.heap[w.heap.size + 1 + 1]? = some (.cells #[.int .i64 id, .int .i64 view, .int .i64 h0, .int .i64 h1, .int .i64 h2, .int .i64 h3, .int .i64 0, .int .i64 0, .int .i64 0, .int .i64 0, .int .i64 0, .int .i64 0, .int .i64 0, .int .i64 0, .slice none 0 0, .slice none 0 0, .slice none 0 0, .slice none 0 0, .slice none 0 0, .slice none 0 0, .int .i64 0] 41 (0, 0))) := (hb.block _ (by have := HL1.out; omega)).trans HO1.out
  have HLa : Hid (y1.heap.size ≤ x2.heap.size ∧ w.heap.size + 1 + 1 < x2.heap.size) := ⟨hb.size, Nat.lt_of_lt_of_le HL1.out hb.size⟩
  clear hb HB1 HA1 HZ1 HO1
  go_wp2_with (refine wpList_store_part rfl _ _ _ rfl (w.heap.size + 1 + 1) 6 #[.int .i64 l0, .int .i64 l1, .int .i64 l2, .int .i64 l3] rfl rfl _ _ HOa.out (by kernel_rfl) (by simp) (by simp [Value.oneCell']) #[.int .i64 id, .int .i64 view, .int .i64 h0, .int .i64 h1, .int .i64 h2, .int .i64 h3, .int .i64 l0, .int .i64 l1, .int .i64 l2, .int .i64 l3, .int .i64 0, .int .i64 0, .int .i64 0, .int .i64 0, .slice none 0 0, .slice none 0 0, .slice none 0 0, .slice none 0 0, .slice none 0 0, .slice none 0 0, .int .i64 0] rfl ?_; intro y2 hg hk; have HB2 : Hid (Below w.heap.size w y2) := HBa.out.grown hg HBa.out.size (fun y hy => by cases hy; omega); have HA2 : Hid (y2.heap[w.heap.size]? = Option.some (.cells #[.int .i64 id, .int .i64 view, .int .i64 h0, .int .i64 h1, .int .i64 h2, .int .i64 h3, .int .i64 l0, .int .i64 l1, .int .i64 l2, .int .i64 l3, .int .i64 a0, .int .i64 a1, .int .i64 a2, .int .i64 a3, .slice sar row.length scr, .slice sac cells.length scc, .slice sae early.length sce, .slice sau undos.length scu, .slice sav votes.length scv, .slice san news.length scn, .int .i64 shown] 32 (0, 0))) := (hg.block _ (Array.getElem?_eq_some_iff.1 HAa.out).1 (fun e => by have := Option.some.inj e; omega)).trans HAa.out; have HZ2 : Hid (y2.heap[w.heap.size + 1]? = Option.some (.cells #[.int .i64 0, .int .i64 0, .int .i64 0, .int .i64 0, .int .i64 0, .int .i64 0, .int .i64 0, .int .i64 0, .int .i64 0, .int .i64 0, .int .i64 0, .int .i64 0, .int .i64 0, .int .i64 0, .slice none 0 0, .slice none 0 0, .slice none 0 0, .slice none 0 0, .slice none 0 0, .slice none 0 0, .int .i64 0] 41 (0, 0))) := (hg.block _ (Array.getElem?_eq_some_iff.1 HZa.out).1 (fun e => by have := Option.some.inj e; omega)).trans HZa.out; have HO2 : Hid (y2.heap[w.heap.size + 1 + 1]? = Option.some (.cells #[.int .i64 id, .int .i64 view, .int .i64 h0, .int .i64 h1, .int .i64 h2, .int .i64 h3, .int .i64 l0, .int .i64 l1, .int .i64 l2, .int .i64 l3, .int .i64 0, .int .i64 0, .int .i64 0, .int .i64 0, .slice none 0 0, .slice none 0 0, .slice none 0 0, .slice none 0 0, .slice none 0 0, .slice none 0 0, .int .i64 0] 41 (0, 0))) := hk; have HL2 : Hid (w.heap.size + 1 + 1 < y2.heap.size) := Nat.lt_of_lt_of_le HLa.out.2 hg.size; have HM2 : Hid (y1.heap.size ≤ x2.heap.size ∧ x2.heap.size ≤ y2.heap.size) := ⟨HLa.out.1, hg.size⟩; clear hg hk HBa HAa HZa HOa HLa; have c10 := blk_cell HA2.out 10 (.int .i64 a0) rfl; have c11 := blk_cell HA2.out 11 (.int .i64 a1) rfl; have c12 := blk_cell HA2.out 12 (.int .i64 a2) rfl; have c13 := blk_cell HA2.out 13 (.int .i64 a3) rfl)
  clear c10 c11 c12 c13
  refine (toV4_any a0 a1 a2 a3 y2).mono ?_
  rintro e x3 ⟨rfl, hb⟩
  have HBa : Hid (Below w.heap.size w x3) := bt HB2.out hb
  have HAa : Hid (x3.heap[w.heap.size]? = some (.cells #[.int .i64 id, .int .i64 view, .int .i64 h0, .int .i64 h1, .int .i64 h2, .int .i64 h3, .int .i64 l0, .int .i64 l1, .int .i64 l2, .int .i64 l3, .int .i64 a0, .int .i64 a1, .int .i64 a2, .int .i64 a3, .slice sar row.length scr, .slice sac cells.length scc, .slice sae early.length sce, .slice sau undos.length scu, .slice sav votes.length scv, .slice san news.length scn, .int .i64 shown] 32 (0, 0))) := (hb.block _ (by have := HL2.out; omega)).trans HA2.out
  have HZa : Hid (x3.heap[w.heap.size + 1]? = some (.cells #[.int .i64 0, .int .i64 0, .int .i64 0, .int .i64 0, .int .i64 0, .int .i64 0, .int .i64 0, .int .i64 0, .int .i64 0, .int .i64 0, .int .i64 0, .int .i64 0, .int .i64 0, .int .i64 0, .slice none 0 0, .slice none 0 0, .slice none 0 0, .slice none 0 0, .slice none 0 0, .slice none 0 0, .int .i64 0] 41 (0, 0))) := (hb.block _ (by have := HL2.out; omega)).trans HZ2.out
  have HOa : Hid (x3.heap[w.heap.size + 1 + 1]? = some (.cells #[.int .i64 id, .int .i64 view, .int .i64 h0, .int .i64 h1, .int .i64 h2, .int .i64 h3, .int .i64 l0, .int .i64 l1, .int .i64 l2, .int .i64 l3, .int .i64 0, .int .i64 0, .int .i64 0, .int .i64 0, .slice none 0 0, .slice none 0 0, .slice none 0 0, .slice none 0 0, .slice none 0 0, .slice none 0 0, .int .i64 0] 41 (0, 0))) := (hb.block _ (by have := HL2.out; omega)).trans HO2.out
  have HLa : Hid (y2.heap.size ≤ x3.heap.size ∧ w.heap.size + 1 + 1 < x3.heap.size) := ⟨hb.size, Nat.lt_of_lt_of_le HL2.out hb.size⟩
  clear hb HB2 HA2 HZ2 HO2
  go_wp2_with (refine wpList_store_part rfl _ _ _ rfl (w.heap.size + 1 + 1) 10 #[.int .i64 a0, .int .i64 a1, .int .i64 a2, .int .i64 a3] rfl rfl _ _ HOa.out (by kernel_rfl) (by simp) (by simp [Value.oneCell']) #[.int .i64 id, .int .i64 view, .int .i64 h0, .int .i64 h1, .int .i64 h2, .int .i64 h3, .int .i64 l0, .int .i64 l1, .int .i64 l2, .int .i64 l3, .int .i64 a0, .int .i64 a1, .int .i64 a2, .int .i64 a3, .slice none 0 0, .slice none 0 0, .slice none 0 0, .slice none 0 0, .slice none 0 0, .slice none 0 0, .int .i64 0] rfl ?_; intro y3 hg hk; have HB3 : Hid (Below w.heap.size w y3) := HBa.out.grown hg HBa.out.size (fun y hy => by cases hy; omega); have HA3 : Hid (y3.heap[w.heap.size]? = Option.some (.cells #[.int .i64 id, .int .i64 view, .int .i64 h0, .int .i64 h1, .int .i64 h2, .int .i64 h3, .int .i64 l0, .int .i64 l1, .int .i64 l2, .int .i64 l3, .int .i64 a0, .int .i64 a1, .int .i64 a2, .int .i64 a3, .slice sar row.length scr, .slice sac cells.length scc, .slice sae early.length sce, .slice sau undos.length scu, .slice sav votes.length scv, .slice san news.length scn, .int .i64 shown] 32 (0, 0))) := (hg.block _ (Array.getElem?_eq_some_iff.1 HAa.out).1 (fun e => by have := Option.some.inj e; omega)).trans HAa.out; have HZ3 : Hid (y3.heap[w.heap.size + 1]? = Option.some (.cells #[.int .i64 0, .int .i64 0, .int .i64 0, .int .i64 0, .int .i64 0, .int .i64 0, .int .i64 0, .int .i64 0, .int .i64 0, .int .i64 0, .int .i64 0, .int .i64 0, .int .i64 0, .int .i64 0, .slice none 0 0, .slice none 0 0, .slice none 0 0, .slice none 0 0, .slice none 0 0, .slice none 0 0, .int .i64 0] 41 (0, 0))) := (hg.block _ (Array.getElem?_eq_some_iff.1 HZa.out).1 (fun e => by have := Option.some.inj e; omega)).trans HZa.out; have HO3 : Hid (y3.heap[w.heap.size + 1 + 1]? = Option.some (.cells #[.int .i64 id, .int .i64 view, .int .i64 h0, .int .i64 h1, .int .i64 h2, .int .i64 h3, .int .i64 l0, .int .i64 l1, .int .i64 l2, .int .i64 l3, .int .i64 a0, .int .i64 a1, .int .i64 a2, .int .i64 a3, .slice none 0 0, .slice none 0 0, .slice none 0 0, .slice none 0 0, .slice none 0 0, .slice none 0 0, .int .i64 0] 41 (0, 0))) := hk; have HL3 : Hid (w.heap.size + 1 + 1 < y3.heap.size) := Nat.lt_of_lt_of_le HLa.out.2 hg.size; have HM3 : Hid (y2.heap.size ≤ x3.heap.size ∧ x3.heap.size ≤ y3.heap.size) := ⟨HLa.out.1, hg.size⟩; clear hg hk HBa HAa HZa HOa HLa; have c14 := blk_cell HA3.out 14 (.slice sar row.length scr) rfl)
  clear c14
  refine (toInts_any row _ y3 (HR.out.row.below HB3.out) HS.out.row).mono ?_
  rintro e x4 ⟨tr, rfl, ho, hb⟩
  obtain ⟨tar, tcr, te, -⟩ := own_form ho
  subst te
  have HBa : Hid (Below w.heap.size w x4) := bt HB3.out hb
  have HAa : Hid (x4.heap[w.heap.size]? = some (.cells #[.int .i64 id, .int .i64 view, .int .i64 h0, .int .i64 h1, .int .i64 h2, .int .i64 h3, .int .i64 l0, .int .i64 l1, .int .i64 l2, .int .i64 l3, .int .i64 a0, .int .i64 a1, .int .i64 a2, .int .i64 a3, .slice sar row.length scr, .slice sac cells.length scc, .slice sae early.length sce, .slice sau undos.length scu, .slice sav votes.length scv, .slice san news.length scn, .int .i64 shown] 32 (0, 0))) := (hb.block _ (by have := HL3.out; omega)).trans HA3.out
  have HZa : Hid (x4.heap[w.heap.size + 1]? = some (.cells #[.int .i64 0, .int .i64 0, .int .i64 0, .int .i64 0, .int .i64 0, .int .i64 0, .int .i64 0, .int .i64 0, .int .i64 0, .int .i64 0, .int .i64 0, .int .i64 0, .int .i64 0, .int .i64 0, .slice none 0 0, .slice none 0 0, .slice none 0 0, .slice none 0 0, .slice none 0 0, .slice none 0 0, .int .i64 0] 41 (0, 0))) := (hb.block _ (by have := HL3.out; omega)).trans HZ3.out
  have HOa : Hid (x4.heap[w.heap.size + 1 + 1]? = some (.cells #[.int .i64 id, .int .i64 view, .int .i64 h0, .int .i64 h1, .int .i64 h2, .int .i64 h3, .int .i64 l0, .int .i64 l1, .int .i64 l2, .int .i64 l3, .int .i64 a0, .int .i64 a1, .int .i64 a2, .int .i64 a3, .slice none 0 0, .slice none 0 0, .slice none 0 0, .slice none 0 0, .slice none 0 0, .slice none 0 0, .int .i64 0] 41 (0, 0))) := (hb.block _ (by have := HL3.out; omega)).trans HO3.out
  have HLa : Hid (y3.heap.size ≤ x4.heap.size ∧ w.heap.size + 1 + 1 < x4.heap.size) := ⟨hb.size, Nat.lt_of_lt_of_le HL3.out hb.size⟩
  have HI0a : Hid (In y3.heap.size x4.heap.size x4 3 1 (.slice tar row.length tcr) row.length (flatR intF row)) := ⟨ho, fun g hg => (ho.lt g hg).2⟩
  clear ho
  clear hb HB3 HA3 HZ3 HO3
  go_wp2_with (refine wpList_store_cell rfl _ _ _ rfl (w.heap.size + 1 + 1) 14 (.slice tar row.length tcr) rfl rfl _ _ HOa.out (by kernel_rfl) (by simp) rfl #[.int .i64 id, .int .i64 view, .int .i64 h0, .int .i64 h1, .int .i64 h2, .int .i64 h3, .int .i64 l0, .int .i64 l1, .int .i64 l2, .int .i64 l3, .int .i64 a0, .int .i64 a1, .int .i64 a2, .int .i64 a3, .slice tar row.length tcr, .slice none 0 0, .slice none 0 0, .slice none 0 0, .slice none 0 0, .slice none 0 0, .int .i64 0] rfl ?_; intro y4 hg hk; have HB4 : Hid (Below w.heap.size w y4) := HBa.out.grown hg HBa.out.size (fun y hy => by cases hy; omega); have HA4 : Hid (y4.heap[w.heap.size]? = Option.some (.cells #[.int .i64 id, .int .i64 view, .int .i64 h0, .int .i64 h1, .int .i64 h2, .int .i64 h3, .int .i64 l0, .int .i64 l1, .int .i64 l2, .int .i64 l3, .int .i64 a0, .int .i64 a1, .int .i64 a2, .int .i64 a3, .slice sar row.length scr, .slice sac cells.length scc, .slice sae early.length sce, .slice sau undos.length scu, .slice sav votes.length scv, .slice san news.length scn, .int .i64 shown] 32 (0, 0))) := (hg.block _ (Array.getElem?_eq_some_iff.1 HAa.out).1 (fun e => by have := Option.some.inj e; omega)).trans HAa.out; have HZ4 : Hid (y4.heap[w.heap.size + 1]? = Option.some (.cells #[.int .i64 0, .int .i64 0, .int .i64 0, .int .i64 0, .int .i64 0, .int .i64 0, .int .i64 0, .int .i64 0, .int .i64 0, .int .i64 0, .int .i64 0, .int .i64 0, .int .i64 0, .int .i64 0, .slice none 0 0, .slice none 0 0, .slice none 0 0, .slice none 0 0, .slice none 0 0, .slice none 0 0, .int .i64 0] 41 (0, 0))) := (hg.block _ (Array.getElem?_eq_some_iff.1 HZa.out).1 (fun e => by have := Option.some.inj e; omega)).trans HZa.out; have HO4 : Hid (y4.heap[w.heap.size + 1 + 1]? = Option.some (.cells #[.int .i64 id, .int .i64 view, .int .i64 h0, .int .i64 h1, .int .i64 h2, .int .i64 h3, .int .i64 l0, .int .i64 l1, .int .i64 l2, .int .i64 l3, .int .i64 a0, .int .i64 a1, .int .i64 a2, .int .i64 a3, .slice tar row.length tcr, .slice none 0 0, .slice none 0 0, .slice none 0 0, .slice none 0 0, .slice none 0 0, .int .i64 0] 41 (0, 0))) := hk; have HL4 : Hid (w.heap.size + 1 + 1 < y4.heap.size) := Nat.lt_of_lt_of_le HLa.out.2 hg.size; have HM4 : Hid (y3.heap.size ≤ x4.heap.size ∧ x4.heap.size ≤ y4.heap.size) := ⟨HLa.out.1, hg.size⟩; have HI0 : Hid (In y3.heap.size x4.heap.size y4 3 1 (.slice tar row.length tcr) row.length (flatR intF row)) := HI0a.out.far hg (Or.inl (by have := HL3.out; omega)); clear hg hk HBa HAa HZa HOa HLa HI0a; have c15 := blk_cell HA4.out 15 (.slice sac cells.length scc) rfl)
  clear c15
  refine (toCells_any cells _ y4 (HR.out.cells.below HB4.out) HS.out.cells).mono ?_
  rintro e x5 ⟨tc, rfl, ho, hb⟩
  obtain ⟨tac, tcc, te, -⟩ := own_form ho
  subst te
  have HBa : Hid (Below w.heap.size w x5) := bt HB4.out hb
  have HAa : Hid (x5.heap[w.heap.size]? = some (.cells #[.int .i64 id, .int .i64 view, .int .i64 h0, .int .i64 h1, .int .i64 h2, .int .i64 h3, .int .i64 l0, .int .i64 l1, .int .i64 l2, .int .i64 l3, .int .i64 a0, .int .i64 a1, .int .i64 a2, .int .i64 a3, .slice sar row.length scr, .slice sac cells.length scc, .slice sae early.length sce, .slice sau undos.length scu, .slice sav votes.length scv, .slice san news.length scn, .int .i64 shown] 32 (0, 0))) := (hb.block _ (by have := HL4.out; omega)).trans HA4.out
  have HZa : Hid (x5.heap[w.heap.size + 1]? = some (.cells #[.int .i64 0, .int .i64 0, .int .i64 0, .int .i64 0, .int .i64 0, .int .i64 0, .int .i64 0, .int .i64 0, .int .i64 0, .int .i64 0, .int .i64 0, .int .i64 0, .int .i64 0, .int .i64 0, .slice none 0 0, .slice none 0 0, .slice none 0 0, .slice none 0 0, .slice none 0 0, .slice none 0 0, .int .i64 0] 41 (0, 0))) := (hb.block _ (by have := HL4.out; omega)).trans HZ4.out
  have HOa : Hid (x5.heap[w.heap.size + 1 + 1]? = some (.cells #[.int .i64 id, .int .i64 view, .int .i64 h0, .int .i64 h1, .int .i64 h2, .int .i64 h3, .int .i64 l0, .int .i64 l1, .int .i64 l2, .int .i64 l3, .int .i64 a0, .int .i64 a1, .int .i64 a2, .int .i64 a3, .slice tar row.length tcr, .slice none 0 0, .slice none 0 0, .slice none 0 0, .slice none 0 0, .slice none 0 0, .int .i64 0] 41 (0, 0))) := (hb.block _ (by have := HL4.out; omega)).trans HO4.out
  have HLa : Hid (y4.heap.size ≤ x5.heap.size ∧ w.heap.size + 1 + 1 < x5.heap.size) := ⟨hb.size, Nat.lt_of_lt_of_le HL4.out hb.size⟩
  have HI0a : Hid (In y3.heap.size x4.heap.size x5 3 1 (.slice tar row.length tcr) row.length (flatR intF row)) := HI0.out.below hb
  have HI1a : Hid (In y4.heap.size x5.heap.size x5 85 2 (.slice tac cells.length tcc) cells.length (flat cells)) := ⟨ho, fun g hg => (ho.lt g hg).2⟩
  clear ho
  clear hb HB4 HA4 HZ4 HO4
  clear HI0
  go_wp2_with (refine wpList_store_cell rfl _ _ _ rfl (w.heap.size + 1 + 1) 15 (.slice tac cells.length tcc) rfl rfl _ _ HOa.out (by kernel_rfl) (by simp) rfl #[.int .i64 id, .int .i64 view, .int .i64 h0, .int .i64 h1, .int .i64 h2, .int .i64 h3, .int .i64 l0, .int .i64 l1, .int .i64 l2, .int .i64 l3, .int .i64 a0, .int .i64 a1, .int .i64 a2, .int .i64 a3, .slice tar row.length tcr, .slice tac cells.length tcc, .slice none 0 0, .slice none 0 0, .slice none 0 0, .slice none 0 0, .int .i64 0] rfl ?_; intro y5 hg hk; have HB5 : Hid (Below w.heap.size w y5) := HBa.out.grown hg HBa.out.size (fun y hy => by cases hy; omega); have HA5 : Hid (y5.heap[w.heap.size]? = Option.some (.cells #[.int .i64 id, .int .i64 view, .int .i64 h0, .int .i64 h1, .int .i64 h2, .int .i64 h3, .int .i64 l0, .int .i64 l1, .int .i64 l2, .int .i64 l3, .int .i64 a0, .int .i64 a1, .int .i64 a2, .int .i64 a3, .slice sar row.length scr, .slice sac cells.length scc, .slice sae early.length sce, .slice sau undos.length scu, .slice sav votes.length scv, .slice san news.length scn, .int .i64 shown] 32 (0, 0))) := (hg.block _ (Array.getElem?_eq_some_iff.1 HAa.out).1 (fun e => by have := Option.some.inj e; omega)).trans HAa.out; have HZ5 : Hid (y5.heap[w.heap.size + 1]? = Option.some (.cells #[.int .i64 0, .int .i64 0, .int .i64 0, .int .i64 0, .int .i64 0, .int .i64 0, .int .i64 0, .int .i64 0, .int .i64 0, .int .i64 0, .int .i64 0, .int .i64 0, .int .i64 0, .int .i64 0, .slice none 0 0, .slice none 0 0, .slice none 0 0, .slice none 0 0, .slice none 0 0, .slice none 0 0, .int .i64 0] 41 (0, 0))) := (hg.block _ (Array.getElem?_eq_some_iff.1 HZa.out).1 (fun e => by have := Option.some.inj e; omega)).trans HZa.out; have HO5 : Hid (y5.heap[w.heap.size + 1 + 1]? = Option.some (.cells #[.int .i64 id, .int .i64 view, .int .i64 h0, .int .i64 h1, .int .i64 h2, .int .i64 h3, .int .i64 l0, .int .i64 l1, .int .i64 l2, .int .i64 l3, .int .i64 a0, .int .i64 a1, .int .i64 a2, .int .i64 a3, .slice tar row.length tcr, .slice tac cells.length tcc, .slice none 0 0, .slice none 0 0, .slice none 0 0, .slice none 0 0, .int .i64 0] 41 (0, 0))) := hk; have HL5 : Hid (w.heap.size + 1 + 1 < y5.heap.size) := Nat.lt_of_lt_of_le HLa.out.2 hg.size; have HM5 : Hid (y4.heap.size ≤ x5.heap.size ∧ x5.heap.size ≤ y5.heap.size) := ⟨HLa.out.1, hg.size⟩; have HI0 : Hid (In y3.heap.size x4.heap.size y5 3 1 (.slice tar row.length tcr) row.length (flatR intF row)) := HI0a.out.far hg (Or.inl (by have := HL3.out; omega)); have HI1 : Hid (In y4.heap.size x5.heap.size y5 85 2 (.slice tac cells.length tcc) cells.length (flat cells)) := HI1a.out.far hg (Or.inl (by have := HL4.out; omega)); clear hg hk HBa HAa HZa HOa HLa HI0a HI1a; have c16 := blk_cell HA5.out 16 (.slice sae early.length sce) rfl)
  clear c16
  refine (toInts_any early _ y5 (HR.out.early.below HB5.out) HS.out.early).mono ?_
  rintro e x6 ⟨te, rfl, ho, hb⟩
  obtain ⟨tae, tce, te, -⟩ := own_form ho
  subst te
  have HBa : Hid (Below w.heap.size w x6) := bt HB5.out hb
  have HAa : Hid (x6.heap[w.heap.size]? = some (.cells #[.int .i64 id, .int .i64 view, .int .i64 h0, .int .i64 h1, .int .i64 h2, .int .i64 h3, .int .i64 l0, .int .i64 l1, .int .i64 l2, .int .i64 l3, .int .i64 a0, .int .i64 a1, .int .i64 a2, .int .i64 a3, .slice sar row.length scr, .slice sac cells.length scc, .slice sae early.length sce, .slice sau undos.length scu, .slice sav votes.length scv, .slice san news.length scn, .int .i64 shown] 32 (0, 0))) := (hb.block _ (by have := HL5.out; omega)).trans HA5.out
  have HZa : Hid (x6.heap[w.heap.size + 1]? = some (.cells #[.int .i64 0, .int .i64 0, .int .i64 0, .int .i64 0, .int .i64 0, .int .i64 0, .int .i64 0, .int .i64 0, .int .i64 0, .int .i64 0, .int .i64 0, .int .i64 0, .int .i64 0, .int .i64 0, .slice none 0 0, .slice none 0 0, .slice none 0 0, .slice none 0 0, .slice none 0 0, .slice none 0 0, .int .i64 0] 41 (0, 0))) := (hb.block _ (by have := HL5.out; omega)).trans HZ5.out
  have HOa : Hid (x6.heap[w.heap.size + 1 + 1]? = some (.cells #[.int .i64 id, .int .i64 view, .int .i64 h0, .int .i64 h1, .int .i64 h2, .int .i64 h3, .int .i64 l0, .int .i64 l1, .int .i64 l2, .int .i64 l3, .int .i64 a0, .int .i64 a1, .int .i64 a2, .int .i64 a3, .slice tar row.length tcr, .slice tac cells.length tcc, .slice none 0 0, .slice none 0 0, .slice none 0 0, .slice none 0 0, .int .i64 0] 41 (0, 0))) := (hb.block _ (by have := HL5.out; omega)).trans HO5.out
  have HLa : Hid (y5.heap.size ≤ x6.heap.size ∧ w.heap.size + 1 + 1 < x6.heap.size) := ⟨hb.size, Nat.lt_of_lt_of_le HL5.out hb.size⟩
  have HI0a : Hid (In y3.heap.size x4.heap.size x6 3 1 (.slice tar row.length tcr) row.length (flatR intF row)) := HI0.out.below hb
  have HI1a : Hid (In y4.heap.size x5.heap.size x6 85 2 (.slice tac cells.length tcc) cells.length (flat cells)) := HI1.out.below hb
  have HI2a : Hid (In y5.heap.size x6.heap.size x6 3 1 (.slice tae early.length tce) early.length (flatR intF early)) := ⟨ho, fun g hg => (ho.lt g hg).2⟩
  clear ho
  clear hb HB5 HA5 HZ5 HO5
  clear HI0 HI1
  go_wp2_with (refine wpList_store_cell rfl _ _ _ rfl (w.heap.size + 1 + 1) 16 (.slice tae early.length tce) rfl rfl _ _ HOa.out (by kernel_rfl) (by simp) rfl #[.int .i64 id, .int .i64 view, .int .i64 h0, .int .i64 h1, .int .i64 h2, .int .i64 h3, .int .i64 l0, .int .i64 l1, .int .i64 l2, .int .i64 l3, .int .i64 a0, .int .i64 a1, .int .i64 a2, .int .i64 a3, .slice tar row.length tcr, .slice tac cells.length tcc, .slice tae early.length tce, .slice none 0 0, .slice none 0 0, .slice none 0 0, .int .i64 0] rfl ?_; intro y6 hg hk; have HB6 : Hid (Below w.heap.size w y6) := HBa.out.grown hg HBa.out.size (fun y hy => by cases hy; omega); have HA6 : Hid (y6.heap[w.heap.size]? = Option.some (.cells #[.int .i64 id, .int .i64 view, .int .i64 h0, .int .i64 h1, .int .i64 h2, .int .i64 h3, .int .i64 l0, .int .i64 l1, .int .i64 l2, .int .i64 l3, .int .i64 a0, .int .i64 a1, .int .i64 a2, .int .i64 a3, .slice sar row.length scr, .slice sac cells.length scc, .slice sae early.length sce, .slice sau undos.length scu, .slice sav votes.length scv, .slice san news.length scn, .int .i64 shown] 32 (0, 0))) := (hg.block _ (Array.getElem?_eq_some_iff.1 HAa.out).1 (fun e => by have := Option.some.inj e; omega)).trans HAa.out; have HZ6 : Hid (y6.heap[w.heap.size + 1]? = Option.some (.cells #[.int .i64 0, .int .i64 0, .int .i64 0, .int .i64 0, .int .i64 0, .int .i64 0, .int .i64 0, .int .i64 0, .int .i64 0, .int .i64 0, .int .i64 0, .int .i64 0, .int .i64 0, .int .i64 0, .slice none 0 0, .slice none 0 0, .slice none 0 0, .slice none 0 0, .slice none 0 0, .slice none 0 0, .int .i64 0] 41 (0, 0))) := (hg.block _ (Array.getElem?_eq_some_iff.1 HZa.out).1 (fun e => by have := Option.some.inj e; omega)).trans HZa.out; have HO6 : Hid (y6.heap[w.heap.size + 1 + 1]? = Option.some (.cells #[.int .i64 id, .int .i64 view, .int .i64 h0, .int .i64 h1, .int .i64 h2, .int .i64 h3, .int .i64 l0, .int .i64 l1, .int .i64 l2, .int .i64 l3, .int .i64 a0, .int .i64 a1, .int .i64 a2, .int .i64 a3, .slice tar row.length tcr, .slice tac cells.length tcc, .slice tae early.length tce, .slice none 0 0, .slice none 0 0, .slice none 0 0, .int .i64 0] 41 (0, 0))) := hk; have HL6 : Hid (w.heap.size + 1 + 1 < y6.heap.size) := Nat.lt_of_lt_of_le HLa.out.2 hg.size; have HM6 : Hid (y5.heap.size ≤ x6.heap.size ∧ x6.heap.size ≤ y6.heap.size) := ⟨HLa.out.1, hg.size⟩; have HI0 : Hid (In y3.heap.size x4.heap.size y6 3 1 (.slice tar row.length tcr) row.length (flatR intF row)) := HI0a.out.far hg (Or.inl (by have := HL3.out; omega)); have HI1 : Hid (In y4.heap.size x5.heap.size y6 85 2 (.slice tac cells.length tcc) cells.length (flat cells)) := HI1a.out.far hg (Or.inl (by have := HL4.out; omega)); have HI2 : Hid (In y5.heap.size x6.heap.size y6 3 1 (.slice tae early.length tce) early.length (flatR intF early)) := HI2a.out.far hg (Or.inl (by have := HL5.out; omega)); clear hg hk HBa HAa HZa HOa HLa HI0a HI1a HI2a; have c17 := blk_cell HA6.out 17 (.slice sau undos.length scu) rfl)
  clear c17
  refine (toUndos_any undos _ y6 (HR.out.undos.below HB6.out) HS.out.undos).mono ?_
  rintro e x7 ⟨tu, rfl, ho, hb⟩
  obtain ⟨tau, tcu, te, -⟩ := own_form ho
  subst te
  have HBa : Hid (Below w.heap.size w x7) := bt HB6.out hb
  have HAa : Hid (x7.heap[w.heap.size]? = some (.cells #[.int .i64 id, .int .i64 view, .int .i64 h0, .int .i64 h1, .int .i64 h2, .int .i64 h3, .int .i64 l0, .int .i64 l1, .int .i64 l2, .int .i64 l3, .int .i64 a0, .int .i64 a1, .int .i64 a2, .int .i64 a3, .slice sar row.length scr, .slice sac cells.length scc, .slice sae early.length sce, .slice sau undos.length scu, .slice sav votes.length scv, .slice san news.length scn, .int .i64 shown] 32 (0, 0))) := (hb.block _ (by have := HL6.out; omega)).trans HA6.out
  have HZa : Hid (x7.heap[w.heap.size + 1]? = some (.cells #[.int .i64 0, .int .i64 0, .int .i64 0, .int .i64 0, .int .i64 0, .int .i64 0, .int .i64 0, .int .i64 0, .int .i64 0, .int .i64 0, .int .i64 0, .int .i64 0, .int .i64 0, .int .i64 0, .slice none 0 0, .slice none 0 0, .slice none 0 0, .slice none 0 0, .slice none 0 0, .slice none 0 0, .int .i64 0] 41 (0, 0))) := (hb.block _ (by have := HL6.out; omega)).trans HZ6.out
  have HOa : Hid (x7.heap[w.heap.size + 1 + 1]? = some (.cells #[.int .i64 id, .int .i64 view, .int .i64 h0, .int .i64 h1, .int .i64 h2, .int .i64 h3, .int .i64 l0, .int .i64 l1, .int .i64 l2, .int .i64 l3, .int .i64 a0, .int .i64 a1, .int .i64 a2, .int .i64 a3, .slice tar row.length tcr, .slice tac cells.length tcc, .slice tae early.length tce, .slice none 0 0, .slice none 0 0, .slice none 0 0, .int .i64 0] 41 (0, 0))) := (hb.block _ (by have := HL6.out; omega)).trans HO6.out
  have HLa : Hid (y6.heap.size ≤ x7.heap.size ∧ w.heap.size + 1 + 1 < x7.heap.size) := ⟨hb.size, Nat.lt_of_lt_of_le HL6.out hb.size⟩
  have HI0a : Hid (In y3.heap.size x4.heap.size x7 3 1 (.slice tar row.length tcr) row.length (flatR intF row)) := HI0.out.below hb
  have HI1a : Hid (In y4.heap.size x5.heap.size x7 85 2 (.slice tac cells.length tcc) cells.length (flat cells)) := HI1.out.below hb
  have HI2a : Hid (In y5.heap.size x6.heap.size x7 3 1 (.slice tae early.length tce) early.length (flatR intF early)) := HI2.out.below hb
  have HI3a : Hid (In y6.heap.size x7.heap.size x7 87 3 (.slice tau undos.length tcu) undos.length (flatR undoF undos)) := ⟨ho, fun g hg => (ho.lt g hg).2⟩
  clear ho
  clear hb HB6 HA6 HZ6 HO6
  clear HI0 HI1 HI2
  go_wp2_with (refine wpList_store_cell rfl _ _ _ rfl (w.heap.size + 1 + 1) 17 (.slice tau undos.length tcu) rfl rfl _ _ HOa.out (by kernel_rfl) (by simp) rfl #[.int .i64 id, .int .i64 view, .int .i64 h0, .int .i64 h1, .int .i64 h2, .int .i64 h3, .int .i64 l0, .int .i64 l1, .int .i64 l2, .int .i64 l3, .int .i64 a0, .int .i64 a1, .int .i64 a2, .int .i64 a3, .slice tar row.length tcr, .slice tac cells.length tcc, .slice tae early.length tce, .slice tau undos.length tcu, .slice none 0 0, .slice none 0 0, .int .i64 0] rfl ?_; intro y7 hg hk; have HB7 : Hid (Below w.heap.size w y7) := HBa.out.grown hg HBa.out.size (fun y hy => by cases hy; omega); have HA7 : Hid (y7.heap[w.heap.size]? = Option.some (.cells #[.int .i64 id, .int .i64 view, .int .i64 h0, .int .i64 h1, .int .i64 h2, .int .i64 h3, .int .i64 l0, .int .i64 l1, .int .i64 l2, .int .i64 l3, .int .i64 a0, .int .i64 a1, .int .i64 a2, .int .i64 a3, .slice sar row.length scr, .slice sac cells.length scc, .slice sae early.length sce, .slice sau undos.length scu, .slice sav votes.length scv, .slice san news.length scn, .int .i64 shown] 32 (0, 0))) := (hg.block _ (Array.getElem?_eq_some_iff.1 HAa.out).1 (fun e => by have := Option.some.inj e; omega)).trans HAa.out; have HZ7 : Hid (y7.heap[w.heap.size + 1]? = Option.some (.cells #[.int .i64 0, .int .i64 0, .int .i64 0, .int .i64 0, .int .i64 0, .int .i64 0, .int .i64 0, .int .i64 0, .int .i64 0, .int .i64 0, .int .i64 0, .int .i64 0, .int .i64 0, .int .i64 0, .slice none 0 0, .slice none 0 0, .slice none 0 0, .slice none 0 0, .slice none 0 0, .slice none 0 0, .int .i64 0] 41 (0, 0))) := (hg.block _ (Array.getElem?_eq_some_iff.1 HZa.out).1 (fun e => by have := Option.some.inj e; omega)).trans HZa.out; have HO7 : Hid (y7.heap[w.heap.size + 1 + 1]? = Option.some (.cells #[.int .i64 id, .int .i64 view, .int .i64 h0, .int .i64 h1, .int .i64 h2, .int .i64 h3, .int .i64 l0, .int .i64 l1, .int .i64 l2, .int .i64 l3, .int .i64 a0, .int .i64 a1, .int .i64 a2, .int .i64 a3, .slice tar row.length tcr, .slice tac cells.length tcc, .slice tae early.length tce, .slice tau undos.length tcu, .slice none 0 0, .slice none 0 0, .int .i64 0] 41 (0, 0))) := hk; have HL7 : Hid (w.heap.size + 1 + 1 < y7.heap.size) := Nat.lt_of_lt_of_le HLa.out.2 hg.size; have HM7 : Hid (y6.heap.size ≤ x7.heap.size ∧ x7.heap.size ≤ y7.heap.size) := ⟨HLa.out.1, hg.size⟩; have HI0 : Hid (In y3.heap.size x4.heap.size y7 3 1 (.slice tar row.length tcr) row.length (flatR intF row)) := HI0a.out.far hg (Or.inl (by have := HL3.out; omega)); have HI1 : Hid (In y4.heap.size x5.heap.size y7 85 2 (.slice tac cells.length tcc) cells.length (flat cells)) := HI1a.out.far hg (Or.inl (by have := HL4.out; omega)); have HI2 : Hid (In y5.heap.size x6.heap.size y7 3 1 (.slice tae early.length tce) early.length (flatR intF early)) := HI2a.out.far hg (Or.inl (by have := HL5.out; omega)); have HI3 : Hid (In y6.heap.size x7.heap.size y7 87 3 (.slice tau undos.length tcu) undos.length (flatR undoF undos)) := HI3a.out.far hg (Or.inl (by have := HL6.out; omega)); clear hg hk HBa HAa HZa HOa HLa HI0a HI1a HI2a HI3a; have c18 := blk_cell HA7.out 18 (.slice sav votes.length scv) rfl)
  clear c18
  refine (toVotes_any votes _ y7 (HR.out.votes.below HB7.out) HS.out.votes).mono ?_
  rintro e x8 ⟨tv, rfl, ho, hb⟩
  obtain ⟨tav, tcv, te, -⟩ := own_form ho
  subst te
  have HBa : Hid (Below w.heap.size w x8) := bt HB7.out hb
  have HAa : Hid (x8.heap[w.heap.size]? = some (.cells #[.int .i64 id, .int .i64 view, .int .i64 h0, .int .i64 h1, .int .i64 h2, .int .i64 h3, .int .i64 l0, .int .i64 l1, .int .i64 l2, .int .i64 l3, .int .i64 a0, .int .i64 a1, .int .i64 a2, .int .i64 a3, .slice sar row.length scr, .slice sac cells.length scc, .slice sae early.length sce, .slice sau undos.length scu, .slice sav votes.length scv, .slice san news.length scn, .int .i64 shown] 32 (0, 0))) := (hb.block _ (by have := HL7.out; omega)).trans HA7.out
  have HZa : Hid (x8.heap[w.heap.size + 1]? = some (.cells #[.int .i64 0, .int .i64 0, .int .i64 0, .int .i64 0, .int .i64 0, .int .i64 0, .int .i64 0, .int .i64 0, .int .i64 0, .int .i64 0, .int .i64 0, .int .i64 0, .int .i64 0, .int .i64 0, .slice none 0 0, .slice none 0 0, .slice none 0 0, .slice none 0 0, .slice none 0 0, .slice none 0 0, .int .i64 0] 41 (0, 0))) := (hb.block _ (by have := HL7.out; omega)).trans HZ7.out
  have HOa : Hid (x8.heap[w.heap.size + 1 + 1]? = some (.cells #[.int .i64 id, .int .i64 view, .int .i64 h0, .int .i64 h1, .int .i64 h2, .int .i64 h3, .int .i64 l0, .int .i64 l1, .int .i64 l2, .int .i64 l3, .int .i64 a0, .int .i64 a1, .int .i64 a2, .int .i64 a3, .slice tar row.length tcr, .slice tac cells.length tcc, .slice tae early.length tce, .slice tau undos.length tcu, .slice none 0 0, .slice none 0 0, .int .i64 0] 41 (0, 0))) := (hb.block _ (by have := HL7.out; omega)).trans HO7.out
  have HLa : Hid (y7.heap.size ≤ x8.heap.size ∧ w.heap.size + 1 + 1 < x8.heap.size) := ⟨hb.size, Nat.lt_of_lt_of_le HL7.out hb.size⟩
  have HI0a : Hid (In y3.heap.size x4.heap.size x8 3 1 (.slice tar row.length tcr) row.length (flatR intF row)) := HI0.out.below hb
  have HI1a : Hid (In y4.heap.size x5.heap.size x8 85 2 (.slice tac cells.length tcc) cells.length (flat cells)) := HI1.out.below hb
  have HI2a : Hid (In y5.heap.size x6.heap.size x8 3 1 (.slice tae early.length tce) early.length (flatR intF early)) := HI2.out.below hb
  have HI3a : Hid (In y6.heap.size x7.heap.size x8 87 3 (.slice tau undos.length tcu) undos.length (flatR undoF undos)) := HI3.out.below hb
  have HI4a : Hid (In y7.heap.size x8.heap.size x8 35 4 (.slice tav votes.length tcv) votes.length (flatR voteF votes)) := ⟨ho, fun g hg => (ho.lt g hg).2⟩
  clear ho
  clear hb HB7 HA7 HZ7 HO7
  clear HI0 HI1 HI2 HI3
  go_wp2_with (refine wpList_store_cell rfl _ _ _ rfl (w.heap.size + 1 + 1) 18 (.slice tav votes.length tcv) rfl rfl _ _ HOa.out (by kernel_rfl) (by simp) rfl #[.int .i64 id, .int .i64 view, .int .i64 h0, .int .i64 h1, .int .i64 h2, .int .i64 h3, .int .i64 l0, .int .i64 l1, .int .i64 l2, .int .i64 l3, .int .i64 a0, .int .i64 a1, .int .i64 a2, .int .i64 a3, .slice tar row.length tcr, .slice tac cells.length tcc, .slice tae early.length tce, .slice tau undos.length tcu, .slice tav votes.length tcv, .slice none 0 0, .int .i64 0] rfl ?_; intro y8 hg hk; have HB8 : Hid (Below w.heap.size w y8) := HBa.out.grown hg HBa.out.size (fun y hy => by cases hy; omega); have HA8 : Hid (y8.heap[w.heap.size]? = Option.some (.cells #[.int .i64 id, .int .i64 view, .int .i64 h0, .int .i64 h1, .int .i64 h2, .int .i64 h3, .int .i64 l0, .int .i64 l1, .int .i64 l2, .int .i64 l3, .int .i64 a0, .int .i64 a1, .int .i64 a2, .int .i64 a3, .slice sar row.length scr, .slice sac cells.length scc, .slice sae early.length sce, .slice sau undos.length scu, .slice sav votes.length scv, .slice san news.length scn, .int .i64 shown] 32 (0, 0))) := (hg.block _ (Array.getElem?_eq_some_iff.1 HAa.out).1 (fun e => by have := Option.some.inj e; omega)).trans HAa.out; have HZ8 : Hid (y8.heap[w.heap.size + 1]? = Option.some (.cells #[.int .i64 0, .int .i64 0, .int .i64 0, .int .i64 0, .int .i64 0, .int .i64 0, .int .i64 0, .int .i64 0, .int .i64 0, .int .i64 0, .int .i64 0, .int .i64 0, .int .i64 0, .int .i64 0, .slice none 0 0, .slice none 0 0, .slice none 0 0, .slice none 0 0, .slice none 0 0, .slice none 0 0, .int .i64 0] 41 (0, 0))) := (hg.block _ (Array.getElem?_eq_some_iff.1 HZa.out).1 (fun e => by have := Option.some.inj e; omega)).trans HZa.out; have HO8 : Hid (y8.heap[w.heap.size + 1 + 1]? = Option.some (.cells #[.int .i64 id, .int .i64 view, .int .i64 h0, .int .i64 h1, .int .i64 h2, .int .i64 h3, .int .i64 l0, .int .i64 l1, .int .i64 l2, .int .i64 l3, .int .i64 a0, .int .i64 a1, .int .i64 a2, .int .i64 a3, .slice tar row.length tcr, .slice tac cells.length tcc, .slice tae early.length tce, .slice tau undos.length tcu, .slice tav votes.length tcv, .slice none 0 0, .int .i64 0] 41 (0, 0))) := hk; have HL8 : Hid (w.heap.size + 1 + 1 < y8.heap.size) := Nat.lt_of_lt_of_le HLa.out.2 hg.size; have HM8 : Hid (y7.heap.size ≤ x8.heap.size ∧ x8.heap.size ≤ y8.heap.size) := ⟨HLa.out.1, hg.size⟩; have HI0 : Hid (In y3.heap.size x4.heap.size y8 3 1 (.slice tar row.length tcr) row.length (flatR intF row)) := HI0a.out.far hg (Or.inl (by have := HL3.out; omega)); have HI1 : Hid (In y4.heap.size x5.heap.size y8 85 2 (.slice tac cells.length tcc) cells.length (flat cells)) := HI1a.out.far hg (Or.inl (by have := HL4.out; omega)); have HI2 : Hid (In y5.heap.size x6.heap.size y8 3 1 (.slice tae early.length tce) early.length (flatR intF early)) := HI2a.out.far hg (Or.inl (by have := HL5.out; omega)); have HI3 : Hid (In y6.heap.size x7.heap.size y8 87 3 (.slice tau undos.length tcu) undos.length (flatR undoF undos)) := HI3a.out.far hg (Or.inl (by have := HL6.out; omega)); have HI4 : Hid (In y7.heap.size x8.heap.size y8 35 4 (.slice tav votes.length tcv) votes.length (flatR voteF votes)) := HI4a.out.far hg (Or.inl (by have := HL7.out; omega)); clear hg hk HBa HAa HZa HOa HLa HI0a HI1a HI2a HI3a HI4a; have c19 := blk_cell HA8.out 19 (.slice san news.length scn) rfl)
  clear c19
  refine (toLetters_any news _ y8 (HR.out.news.below HB8.out) HS.out.news).mono ?_
  rintro e x9 ⟨tn, rfl, ho, hb⟩
  obtain ⟨tan, tcn, te, -⟩ := own_form ho
  subst te
  have HBa : Hid (Below w.heap.size w x9) := bt HB8.out hb
  have HAa : Hid (x9.heap[w.heap.size]? = some (.cells #[.int .i64 id, .int .i64 view, .int .i64 h0, .int .i64 h1, .int .i64 h2, .int .i64 h3, .int .i64 l0, .int .i64 l1, .int .i64 l2, .int .i64 l3, .int .i64 a0, .int .i64 a1, .int .i64 a2, .int .i64 a3, .slice sar row.length scr, .slice sac cells.length scc, .slice sae early.length sce, .slice sau undos.length scu, .slice sav votes.length scv, .slice san news.length scn, .int .i64 shown] 32 (0, 0))) := (hb.block _ (by have := HL8.out; omega)).trans HA8.out
  have HZa : Hid (x9.heap[w.heap.size + 1]? = some (.cells #[.int .i64 0, .int .i64 0, .int .i64 0, .int .i64 0, .int .i64 0, .int .i64 0, .int .i64 0, .int .i64 0, .int .i64 0, .int .i64 0, .int .i64 0, .int .i64 0, .int .i64 0, .int .i64 0, .slice none 0 0, .slice none 0 0, .slice none 0 0, .slice none 0 0, .slice none 0 0, .slice none 0 0, .int .i64 0] 41 (0, 0))) := (hb.block _ (by have := HL8.out; omega)).trans HZ8.out
  have HOa : Hid (x9.heap[w.heap.size + 1 + 1]? = some (.cells #[.int .i64 id, .int .i64 view, .int .i64 h0, .int .i64 h1, .int .i64 h2, .int .i64 h3, .int .i64 l0, .int .i64 l1, .int .i64 l2, .int .i64 l3, .int .i64 a0, .int .i64 a1, .int .i64 a2, .int .i64 a3, .slice tar row.length tcr, .slice tac cells.length tcc, .slice tae early.length tce, .slice tau undos.length tcu, .slice tav votes.length tcv, .slice none 0 0, .int .i64 0] 41 (0, 0))) := (hb.block _ (by have := HL8.out; omega)).trans HO8.out
  have HLa : Hid (y8.heap.size ≤ x9.heap.size ∧ w.heap.size + 1 + 1 < x9.heap.size) := ⟨hb.size, Nat.lt_of_lt_of_le HL8.out hb.size⟩
  have HI0a : Hid (In y3.heap.size x4.heap.size x9 3 1 (.slice tar row.length tcr) row.length (flatR intF row)) := HI0.out.below hb
  have HI1a : Hid (In y4.heap.size x5.heap.size x9 85 2 (.slice tac cells.length tcc) cells.length (flat cells)) := HI1.out.below hb
  have HI2a : Hid (In y5.heap.size x6.heap.size x9 3 1 (.slice tae early.length tce) early.length (flatR intF early)) := HI2.out.below hb
  have HI3a : Hid (In y6.heap.size x7.heap.size x9 87 3 (.slice tau undos.length tcu) undos.length (flatR undoF undos)) := HI3.out.below hb
  have HI4a : Hid (In y7.heap.size x8.heap.size x9 35 4 (.slice tav votes.length tcv) votes.length (flatR voteF votes)) := HI4.out.below hb
  have HI5a : Hid (In y8.heap.size x9.heap.size x9 43 13 (.slice tan news.length tcn) news.length (flatR letF news)) := ⟨ho, fun g hg => (ho.lt g hg).2⟩
  clear ho
  clear hb HB8 HA8 HZ8 HO8
  clear HI0 HI1 HI2 HI3 HI4
  go_wp2_with (first
    | (refine wpList_store_cell rfl _ _ _ rfl (w.heap.size + 1 + 1) 19 (.slice tan news.length tcn) rfl rfl _ _ HOa.out (by kernel_rfl) (by simp) rfl #[.int .i64 id, .int .i64 view, .int .i64 h0, .int .i64 h1, .int .i64 h2, .int .i64 h3, .int .i64 l0, .int .i64 l1, .int .i64 l2, .int .i64 l3, .int .i64 a0, .int .i64 a1, .int .i64 a2, .int .i64 a3, .slice tar row.length tcr, .slice tac cells.length tcc, .slice tae early.length tce, .slice tau undos.length tcu, .slice tav votes.length tcv, .slice tan news.length tcn, .int .i64 0] rfl ?_; intro y9 hg hk; have HB9 : Hid (Below w.heap.size w y9) := HBa.out.grown hg HBa.out.size (fun y hy => by cases hy; omega); have HA9 : Hid (y9.heap[w.heap.size]? = Option.some (.cells #[.int .i64 id, .int .i64 view, .int .i64 h0, .int .i64 h1, .int .i64 h2, .int .i64 h3, .int .i64 l0, .int .i64 l1, .int .i64 l2, .int .i64 l3, .int .i64 a0, .int .i64 a1, .int .i64 a2, .int .i64 a3, .slice sar row.length scr, .slice sac cells.length scc, .slice sae early.length sce, .slice sau undos.length scu, .slice sav votes.length scv, .slice san news.length scn, .int .i64 shown] 32 (0, 0))) := (hg.block _ (Array.getElem?_eq_some_iff.1 HAa.out).1 (fun e => by have := Option.some.inj e; omega)).trans HAa.out; have HZ9 : Hid (y9.heap[w.heap.size + 1]? = Option.some (.cells #[.int .i64 0, .int .i64 0, .int .i64 0, .int .i64 0, .int .i64 0, .int .i64 0, .int .i64 0, .int .i64 0, .int .i64 0, .int .i64 0, .int .i64 0, .int .i64 0, .int .i64 0, .int .i64 0, .slice none 0 0, .slice none 0 0, .slice none 0 0, .slice none 0 0, .slice none 0 0, .slice none 0 0, .int .i64 0] 41 (0, 0))) := (hg.block _ (Array.getElem?_eq_some_iff.1 HZa.out).1 (fun e => by have := Option.some.inj e; omega)).trans HZa.out; have HO9 : Hid (y9.heap[w.heap.size + 1 + 1]? = Option.some (.cells #[.int .i64 id, .int .i64 view, .int .i64 h0, .int .i64 h1, .int .i64 h2, .int .i64 h3, .int .i64 l0, .int .i64 l1, .int .i64 l2, .int .i64 l3, .int .i64 a0, .int .i64 a1, .int .i64 a2, .int .i64 a3, .slice tar row.length tcr, .slice tac cells.length tcc, .slice tae early.length tce, .slice tau undos.length tcu, .slice tav votes.length tcv, .slice tan news.length tcn, .int .i64 0] 41 (0, 0))) := hk; have HL9 : Hid (w.heap.size + 1 + 1 < y9.heap.size) := Nat.lt_of_lt_of_le HLa.out.2 hg.size; have HM9 : Hid (y8.heap.size ≤ x9.heap.size ∧ x9.heap.size ≤ y9.heap.size) := ⟨HLa.out.1, hg.size⟩; have HI0 : Hid (In y3.heap.size x4.heap.size y9 3 1 (.slice tar row.length tcr) row.length (flatR intF row)) := HI0a.out.far hg (Or.inl (by have := HL3.out; omega)); have HI1 : Hid (In y4.heap.size x5.heap.size y9 85 2 (.slice tac cells.length tcc) cells.length (flat cells)) := HI1a.out.far hg (Or.inl (by have := HL4.out; omega)); have HI2 : Hid (In y5.heap.size x6.heap.size y9 3 1 (.slice tae early.length tce) early.length (flatR intF early)) := HI2a.out.far hg (Or.inl (by have := HL5.out; omega)); have HI3 : Hid (In y6.heap.size x7.heap.size y9 87 3 (.slice tau undos.length tcu) undos.length (flatR undoF undos)) := HI3a.out.far hg (Or.inl (by have := HL6.out; omega)); have HI4 : Hid (In y7.heap.size x8.heap.size y9 35 4 (.slice tav votes.length tcv) votes.length (flatR voteF votes)) := HI4a.out.far hg (Or.inl (by have := HL7.out; omega)); have HI5 : Hid (In y8.heap.size x9.heap.size y9 43 13 (.slice tan news.length tcn) news.length (flatR letF news)) := HI5a.out.far hg (Or.inl (by have := HL8.out; omega)); clear hg hk HBa HAa HZa HOa HLa HI0a HI1a HI2a HI3a HI4a HI5a; have c20 := blk_cell HA9.out 20 (.int .i64 shown) rfl)
    | (refine wpList_store_cell rfl _ _ _ rfl (w.heap.size + 1 + 1) 20 (.int .i64 shown) rfl rfl _ _ HO9.out (by kernel_rfl) (by simp) rfl #[.int .i64 id, .int .i64 view, .int .i64 h0, .int .i64 h1, .int .i64 h2, .int .i64 h3, .int .i64 l0, .int .i64 l1, .int .i64 l2, .int .i64 l3, .int .i64 a0, .int .i64 a1, .int .i64 a2, .int .i64 a3, .slice tar row.length tcr, .slice tac cells.length tcc, .slice tae early.length tce, .slice tau undos.length tcu, .slice tav votes.length tcv, .slice tan news.length tcn, .int .i64 shown] rfl ?_; intro z1 hg hk; have HBz : Hid (Below w.heap.size w z1) := HB9.out.grown hg HB9.out.size (fun y hy => by cases hy; omega); have HZz : Hid (z1.heap[w.heap.size + 1]? = Option.some (.cells #[.int .i64 0, .int .i64 0, .int .i64 0, .int .i64 0, .int .i64 0, .int .i64 0, .int .i64 0, .int .i64 0, .int .i64 0, .int .i64 0, .int .i64 0, .int .i64 0, .int .i64 0, .int .i64 0, .slice none 0 0, .slice none 0 0, .slice none 0 0, .slice none 0 0, .slice none 0 0, .slice none 0 0, .int .i64 0] 41 (0, 0))) := (hg.block _ (Array.getElem?_eq_some_iff.1 HZ9.out).1 (fun e => by have := Option.some.inj e; omega)).trans HZ9.out; have HMz : Hid (y9.heap.size ≤ z1.heap.size) := hg.size; have HI0z : Hid (In y3.heap.size x4.heap.size z1 3 1 (.slice tar row.length tcr) row.length (flatR intF row)) := HI0.out.far hg (Or.inl (by have := HL3.out; omega)); have HI1z : Hid (In y4.heap.size x5.heap.size z1 85 2 (.slice tac cells.length tcc) cells.length (flat cells)) := HI1.out.far hg (Or.inl (by have := HL4.out; omega)); have HI2z : Hid (In y5.heap.size x6.heap.size z1 3 1 (.slice tae early.length tce) early.length (flatR intF early)) := HI2.out.far hg (Or.inl (by have := HL5.out; omega)); have HI3z : Hid (In y6.heap.size x7.heap.size z1 87 3 (.slice tau undos.length tcu) undos.length (flatR undoF undos)) := HI3.out.far hg (Or.inl (by have := HL6.out; omega)); have HI4z : Hid (In y7.heap.size x8.heap.size z1 35 4 (.slice tav votes.length tcv) votes.length (flatR voteF votes)) := HI4.out.far hg (Or.inl (by have := HL7.out; omega)); have HI5z : Hid (In y8.heap.size x9.heap.size z1 43 13 (.slice tan news.length tcn) news.length (flatR letF news)) := HI5.out.far hg (Or.inl (by have := HL8.out; omega)); have HKz : Hid (z1.heap[w.heap.size + 1 + 1]? = Option.some (.cells #[.int .i64 id, .int .i64 view, .int .i64 h0, .int .i64 h1, .int .i64 h2, .int .i64 h3, .int .i64 l0, .int .i64 l1, .int .i64 l2, .int .i64 l3, .int .i64 a0, .int .i64 a1, .int .i64 a2, .int .i64 a3, .slice tar row.length tcr, .slice tac cells.length tcc, .slice tae early.length tce, .slice tau undos.length tcu, .slice tav votes.length tcv, .slice tan news.length tcn, .int .i64 shown] 41 (0, 0))) := hk; clear hg hk)
    | (refine wpList_load_row rfl _ _ rfl (w.heap.size + 1 + 1) rfl 41 #[.int .i64 id, .int .i64 view, .int .i64 h0, .int .i64 h1, .int .i64 h2, .int .i64 h3, .int .i64 l0, .int .i64 l1, .int .i64 l2, .int .i64 l3, .int .i64 a0, .int .i64 a1, .int .i64 a2, .int .i64 a3, .slice tar row.length tcr, .slice tac cells.length tcc, .slice tae early.length tce, .slice tau undos.length tcu, .slice tav votes.length tcv, .slice tan news.length tcn, .int .i64 shown] (0, 0) _ HKz.out Try.underlying41 rfl (by kernel_rfl) ?_)
    | (refine wpList_store_blk rfl _ _ _ rfl (w.heap.size + 1) #[.int .i64 id, .int .i64 view, .int .i64 h0, .int .i64 h1, .int .i64 h2, .int .i64 h3, .int .i64 l0, .int .i64 l1, .int .i64 l2, .int .i64 l3, .int .i64 a0, .int .i64 a1, .int .i64 a2, .int .i64 a3, .slice tar row.length tcr, .slice tac cells.length tcc, .slice tae early.length tce, .slice tau undos.length tcu, .slice tav votes.length tcv, .slice tan news.length tcn, .int .i64 shown] rfl rfl 41 #[.int .i64 0, .int .i64 0, .int .i64 0, .int .i64 0, .int .i64 0, .int .i64 0, .int .i64 0, .int .i64 0, .int .i64 0, .int .i64 0, .int .i64 0, .int .i64 0, .int .i64 0, .int .i64 0, .slice none 0 0, .slice none 0 0, .slice none 0 0, .slice none 0 0, .slice none 0 0, .slice none 0 0, .int .i64 0] HZz.out (by kernel_rfl) rfl (by simp [Value.oneCell']) ?_; intro z2 hg hk hsz; have HBy : Hid (Below w.heap.size w z2) := HBz.out.grown hg HBz.out.size (fun y hy => by cases hy; omega); have HMy : Hid (z1.heap.size ≤ z2.heap.size) := hg.size; have HI0y : Hid (In y3.heap.size x4.heap.size z2 3 1 (.slice tar row.length tcr) row.length (flatR intF row)) := HI0z.out.far hg (Or.inl (by have := HL3.out; omega)); have HI1y : Hid (In y4.heap.size x5.heap.size z2 85 2 (.slice tac cells.length tcc) cells.length (flat cells)) := HI1z.out.far hg (Or.inl (by have := HL4.out; omega)); have HI2y : Hid (In y5.heap.size x6.heap.size z2 3 1 (.slice tae early.length tce) early.length (flatR intF early)) := HI2z.out.far hg (Or.inl (by have := HL5.out; omega)); have HI3y : Hid (In y6.heap.size x7.heap.size z2 87 3 (.slice tau undos.length tcu) undos.length (flatR undoF undos)) := HI3z.out.far hg (Or.inl (by have := HL6.out; omega)); have HI4y : Hid (In y7.heap.size x8.heap.size z2 35 4 (.slice tav votes.length tcv) votes.length (flatR voteF votes)) := HI4z.out.far hg (Or.inl (by have := HL7.out; omega)); have HI5y : Hid (In y8.heap.size x9.heap.size z2 43 13 (.slice tan news.length tcn) news.length (flatR letF news)) := HI5z.out.far hg (Or.inl (by have := HL8.out; omega)); have HKy : Hid (z2.heap[w.heap.size + 1]? = Option.some (.cells #[.int .i64 id, .int .i64 view, .int .i64 h0, .int .i64 h1, .int .i64 h2, .int .i64 h3, .int .i64 l0, .int .i64 l1, .int .i64 l2, .int .i64 l3, .int .i64 a0, .int .i64 a1, .int .i64 a2, .int .i64 a3, .slice tar row.length tcr, .slice tac cells.length tcc, .slice tae early.length tce, .slice tau undos.length tcu, .slice tav votes.length tcv, .slice tan news.length tcn, .int .i64 shown] 41 (0, 0))) := hk; clear hg hk hsz))
  refine bodyPost_ret (v := .agg #[.int .i64 id, .int .i64 view, .int .i64 h0, .int .i64 h1, .int .i64 h2, .int .i64 h3, .int .i64 l0, .int .i64 l1, .int .i64 l2, .int .i64 l3, .int .i64 a0, .int .i64 a1, .int .i64 a2, .int .i64 a3, .slice tar row.length tcr, .slice tac cells.length tcc, .slice tae early.length tce, .slice tau undos.length tcu, .slice tav votes.length tcv, .slice tan news.length tcn, .int .i64 shown]) (results_cell_row Try.results6 _ _ (w.heap.size + 1) 41 _ (0, 0) _ rfl HKy.out Try.underlying41 rfl (by kernel_rfl)) rfl ?_
  refine ⟨⟨.slice tar row.length tcr, .slice tac cells.length tcc, .slice tae early.length tce, .slice tau undos.length tcu, .slice tav votes.length tcv, .slice tan news.length tcn⟩, rfl, ?_, HBy.out⟩
  have HQ : w.heap.size ≤ y3.heap.size ∧ x4.heap.size ≤ y4.heap.size ∧ x5.heap.size ≤ y5.heap.size ∧ x6.heap.size ≤ y6.heap.size ∧ x7.heap.size ≤ y7.heap.size ∧ x8.heap.size ≤ y8.heap.size ∧ x9.heap.size ≤ z2.heap.size ∧ y3.heap.size ≤ x4.heap.size ∧ y4.heap.size ≤ x5.heap.size ∧ y5.heap.size ≤ x6.heap.size ∧ y6.heap.size ≤ x7.heap.size ∧ y7.heap.size ≤ x8.heap.size ∧ y8.heap.size ≤ x9.heap.size := by
    have := HL0.out; have := HM1.out; have := HM2.out; have := HM3.out; have := HM4.out; have := HM5.out; have := HM6.out; have := HM7.out; have := HM8.out; have := HM9.out; have := HMz.out; have := HMy.out
    omega
  refine ⟨x4.heap.size, x5.heap.size, x6.heap.size, x7.heap.size, x8.heap.size, x9.heap.size, by omega, ?_, ?_, ?_, ?_, ?_, ?_⟩
  · exact ⟨own_base HI0y.out.1 (by omega), HI0y.out.2⟩
  · exact ⟨own_base HI1y.out.1 (by omega), HI1y.out.2⟩
  · exact ⟨own_base HI2y.out.1 (by omega), HI2y.out.2⟩
  · exact ⟨own_base HI3y.out.1 (by omega), HI3y.out.2⟩
  · exact ⟨own_base HI4y.out.1 (by omega), HI4y.out.2⟩
  · exact ⟨own_base HI5y.out.1 (by omega), HI5y.out.2⟩

set_option maxRecDepth 100000 in
set_option maxHeartbeats 8000000 in
theorem eqPeer_yes (p : PE) (s t : PV) (w : World) (hR : PeerR w p s) (hT : PeerR w p t) (hs : smallPe p) :
    Calls Try.prog 8 #[peerV p s, peerV p t] w fun e w' => e = .returned (.bool true) ∧ Below w.heap.size w w' := by
  have HR := hid hR
  have HT := hid hT
  have HS := hid hs
  clear hR hT hs
  obtain ⟨id, view, ⟨h0, h1, h2, h3⟩, ⟨l0, l1, l2, l3⟩, ⟨a0, a1, a2, a3⟩, row, cells, early, undos, votes, news, shown⟩ := p
  obtain ⟨svr, svc, sve, svu, svv, svn⟩ := s
  obtain ⟨sar, scr, ser, -⟩ := HR.out.row
  change svr = _ at ser
  subst ser
  obtain ⟨sac, scc, sec, -⟩ := HR.out.cells
  change svc = _ at sec
  subst sec
  obtain ⟨sae, sce, see, -⟩ := HR.out.early
  change sve = _ at see
  subst see
  obtain ⟨sau, scu, seu, -⟩ := HR.out.undos
  change svu = _ at seu
  subst seu
  obtain ⟨sav, scv, sev, -⟩ := HR.out.votes
  change svv = _ at sev
  subst sev
  obtain ⟨san, scn, sen, -⟩ := HR.out.news
  change svn = _ at sen
  subst sen
  obtain ⟨tvr, tvc, tve, tvu, tvv, tvn⟩ := t
  obtain ⟨tar, tcr, ter, -⟩ := HT.out.row
  change tvr = _ at ter
  subst ter
  obtain ⟨tac, tcc, tec, -⟩ := HT.out.cells
  change tvc = _ at tec
  subst tec
  obtain ⟨tae, tce, tee, -⟩ := HT.out.early
  change tve = _ at tee
  subst tee
  obtain ⟨tau, tcu, teu, -⟩ := HT.out.undos
  change tvu = _ at teu
  subst teu
  obtain ⟨tav, tcv, tev, -⟩ := HT.out.votes
  change tvv = _ at tev
  subst tev
  obtain ⟨tan, tcn, ten, -⟩ := HT.out.news
  change tvn = _ at ten
  subst ten
  unfold peerV peerA
  simp only
  obtain ⟨W, hW⟩ : ∃ W, W = (w.alloc (.cells #[.int .i64 id, .int .i64 view, .int .i64 h0, .int .i64 h1, .int .i64 h2, .int .i64 h3, .int .i64 l0, .int .i64 l1, .int .i64 l2, .int .i64 l3, .int .i64 a0, .int .i64 a1, .int .i64 a2, .int .i64 a3, .slice sar row.length scr, .slice sac cells.length scc, .slice sae early.length sce, .slice sau undos.length scu, .slice sav votes.length scv, .slice san news.length scn, .int .i64 shown] 41)).alloc (.cells #[.int .i64 id, .int .i64 view, .int .i64 h0, .int .i64 h1, .int .i64 h2, .int .i64 h3, .int .i64 l0, .int .i64 l1, .int .i64 l2, .int .i64 l3, .int .i64 a0, .int .i64 a1, .int .i64 a2, .int .i64 a3, .slice tar row.length tcr, .slice tac cells.length tcc, .slice tae early.length tce, .slice tau undos.length tcu, .slice tav votes.length tcv, .slice tan news.length tcn, .int .i64 shown] 41) := ⟨_, rfl⟩
  have HB0 : Hid (Below w.heap.size w W) := (by rw [hW]; exact ba (ba (Below.refl _ _) _) _ : Below w.heap.size w W)
  have HA0 : Hid (W.heap[w.heap.size]? = some (.cells #[.int .i64 id, .int .i64 view, .int .i64 h0, .int .i64 h1, .int .i64 h2, .int .i64 h3, .int .i64 l0, .int .i64 l1, .int .i64 l2, .int .i64 l3, .int .i64 a0, .int .i64 a1, .int .i64 a2, .int .i64 a3, .slice sar row.length scr, .slice sac cells.length scc, .slice sae early.length sce, .slice sau undos.length scu, .slice sav votes.length scv, .slice san news.length scn, .int .i64 shown] 41 (0, 0))) := (by rw [hW]; exact (alloc2 w _ _).1 : W.heap[w.heap.size]? = _)
  have HC0 : Hid (W.heap[w.heap.size + 1]? = some (.cells #[.int .i64 id, .int .i64 view, .int .i64 h0, .int .i64 h1, .int .i64 h2, .int .i64 h3, .int .i64 l0, .int .i64 l1, .int .i64 l2, .int .i64 l3, .int .i64 a0, .int .i64 a1, .int .i64 a2, .int .i64 a3, .slice tar row.length tcr, .slice tac cells.length tcc, .slice tae early.length tce, .slice tau undos.length tcu, .slice tav votes.length tcv, .slice tan news.length tcn, .int .i64 shown] 41 (0, 0))) := (by rw [hW]; exact (alloc2 w _ _).2 : W.heap[w.heap.size + 1]? = _)
  go_enter Try.func8, Try.ntmps8
  have c0 := blk_cell HA0.out 0 (.int .i64 id) rfl
  have d0 := blk_cell HC0.out 0 (.int .i64 id) rfl
  have c1 := blk_cell HA0.out 1 (.int .i64 view) rfl
  have d1 := blk_cell HC0.out 1 (.int .i64 view) rfl
  have c2 := blk_cell HA0.out 2 (.int .i64 h0) rfl
  have d2 := blk_cell HC0.out 2 (.int .i64 h0) rfl
  have c3 := blk_cell HA0.out 3 (.int .i64 h1) rfl
  have d3 := blk_cell HC0.out 3 (.int .i64 h1) rfl
  have c4 := blk_cell HA0.out 4 (.int .i64 h2) rfl
  have d4 := blk_cell HC0.out 4 (.int .i64 h2) rfl
  have c5 := blk_cell HA0.out 5 (.int .i64 h3) rfl
  have d5 := blk_cell HC0.out 5 (.int .i64 h3) rfl
  rw [hW] at c0 d0 c1 d1 c2 d2 c3 d3 c4 d4 c5 d5
  go_wp2_with fail
  rw [← hW]
  clear hW
  clear c0 d0 c1 d1 c2 d2 c3 d3 c4 d4 c5 d5
  refine (eqQ4_yes h0 h1 h2 h3 W).mono ?_
  rintro e w1 ⟨rfl, hb⟩
  have HB1 : Hid (Below w.heap.size w w1) := bt HB0.out hb
  have HA1 : Hid (w1.heap[w.heap.size]? = some (.cells #[.int .i64 id, .int .i64 view, .int .i64 h0, .int .i64 h1, .int .i64 h2, .int .i64 h3, .int .i64 l0, .int .i64 l1, .int .i64 l2, .int .i64 l3, .int .i64 a0, .int .i64 a1, .int .i64 a2, .int .i64 a3, .slice sar row.length scr, .slice sac cells.length scc, .slice sae early.length sce, .slice sau undos.length scu, .slice sav votes.length scv, .slice san news.length scn, .int .i64 shown] 41 (0, 0))) := (hb.block _ (Array.getElem?_eq_some_iff.1 HA0.out).1).trans HA0.out
  have HC1 : Hid (w1.heap[w.heap.size + 1]? = some (.cells #[.int .i64 id, .int .i64 view, .int .i64 h0, .int .i64 h1, .int .i64 h2, .int .i64 h3, .int .i64 l0, .int .i64 l1, .int .i64 l2, .int .i64 l3, .int .i64 a0, .int .i64 a1, .int .i64 a2, .int .i64 a3, .slice tar row.length tcr, .slice tac cells.length tcc, .slice tae early.length tce, .slice tau undos.length tcu, .slice tav votes.length tcv, .slice tan news.length tcn, .int .i64 shown] 41 (0, 0))) := (hb.block _ (Array.getElem?_eq_some_iff.1 HC0.out).1).trans HC0.out
  clear hb HB0 HA0 HC0
  have c6 := blk_cell HA1.out 6 (.int .i64 l0) rfl
  have d6 := blk_cell HC1.out 6 (.int .i64 l0) rfl
  have c7 := blk_cell HA1.out 7 (.int .i64 l1) rfl
  have d7 := blk_cell HC1.out 7 (.int .i64 l1) rfl
  have c8 := blk_cell HA1.out 8 (.int .i64 l2) rfl
  have d8 := blk_cell HC1.out 8 (.int .i64 l2) rfl
  have c9 := blk_cell HA1.out 9 (.int .i64 l3) rfl
  have d9 := blk_cell HC1.out 9 (.int .i64 l3) rfl
  go_wp2_with fail
  clear c6 d6 c7 d7 c8 d8 c9 d9
  refine (eqQ4_yes l0 l1 l2 l3 w1).mono ?_
  rintro e w2 ⟨rfl, hb⟩
  have HB2 : Hid (Below w.heap.size w w2) := bt HB1.out hb
  have HA2 : Hid (w2.heap[w.heap.size]? = some (.cells #[.int .i64 id, .int .i64 view, .int .i64 h0, .int .i64 h1, .int .i64 h2, .int .i64 h3, .int .i64 l0, .int .i64 l1, .int .i64 l2, .int .i64 l3, .int .i64 a0, .int .i64 a1, .int .i64 a2, .int .i64 a3, .slice sar row.length scr, .slice sac cells.length scc, .slice sae early.length sce, .slice sau undos.length scu, .slice sav votes.length scv, .slice san news.length scn, .int .i64 shown] 41 (0, 0))) := (hb.block _ (Array.getElem?_eq_some_iff.1 HA1.out).1).trans HA1.out
  have HC2 : Hid (w2.heap[w.heap.size + 1]? = some (.cells #[.int .i64 id, .int .i64 view, .int .i64 h0, .int .i64 h1, .int .i64 h2, .int .i64 h3, .int .i64 l0, .int .i64 l1, .int .i64 l2, .int .i64 l3, .int .i64 a0, .int .i64 a1, .int .i64 a2, .int .i64 a3, .slice tar row.length tcr, .slice tac cells.length tcc, .slice tae early.length tce, .slice tau undos.length tcu, .slice tav votes.length tcv, .slice tan news.length tcn, .int .i64 shown] 41 (0, 0))) := (hb.block _ (Array.getElem?_eq_some_iff.1 HC1.out).1).trans HC1.out
  clear hb HB1 HA1 HC1
  have c10 := blk_cell HA2.out 10 (.int .i64 a0) rfl
  have d10 := blk_cell HC2.out 10 (.int .i64 a0) rfl
  have c11 := blk_cell HA2.out 11 (.int .i64 a1) rfl
  have d11 := blk_cell HC2.out 11 (.int .i64 a1) rfl
  have c12 := blk_cell HA2.out 12 (.int .i64 a2) rfl
  have d12 := blk_cell HC2.out 12 (.int .i64 a2) rfl
  have c13 := blk_cell HA2.out 13 (.int .i64 a3) rfl
  have d13 := blk_cell HC2.out 13 (.int .i64 a3) rfl
  go_wp2_with fail
  clear c10 d10 c11 d11 c12 d12 c13 d13
  refine (eqV4_yes a0 a1 a2 a3 w2).mono ?_
  rintro e w3 ⟨rfl, hb⟩
  have HB3 : Hid (Below w.heap.size w w3) := bt HB2.out hb
  have HA3 : Hid (w3.heap[w.heap.size]? = some (.cells #[.int .i64 id, .int .i64 view, .int .i64 h0, .int .i64 h1, .int .i64 h2, .int .i64 h3, .int .i64 l0, .int .i64 l1, .int .i64 l2, .int .i64 l3, .int .i64 a0, .int .i64 a1, .int .i64 a2, .int .i64 a3, .slice sar row.length scr, .slice sac cells.length scc, .slice sae early.length sce, .slice sau undos.length scu, .slice sav votes.length scv, .slice san news.length scn, .int .i64 shown] 41 (0, 0))) := (hb.block _ (Array.getElem?_eq_some_iff.1 HA2.out).1).trans HA2.out
  have HC3 : Hid (w3.heap[w.heap.size + 1]? = some (.cells #[.int .i64 id, .int .i64 view, .int .i64 h0, .int .i64 h1, .int .i64 h2, .int .i64 h3, .int .i64 l0, .int .i64 l1, .int .i64 l2, .int .i64 l3, .int .i64 a0, .int .i64 a1, .int .i64 a2, .int .i64 a3, .slice tar row.length tcr, .slice tac cells.length tcc, .slice tae early.length tce, .slice tau undos.length tcu, .slice tav votes.length tcv, .slice tan news.length tcn, .int .i64 shown] 41 (0, 0))) := (hb.block _ (Array.getElem?_eq_some_iff.1 HC2.out).1).trans HC2.out
  clear hb HB2 HA2 HC2
  have c14 := blk_cell HA3.out 14 (.slice sar row.length scr) rfl
  have d14 := blk_cell HC3.out 14 (.slice tar row.length tcr) rfl
  go_wp2_with fail
  clear c14 d14
  refine (eqInts_yes row _ _ w3 (HR.out.row.below HB3.out) (HT.out.row.below HB3.out) HS.out.row).mono ?_
  rintro e w4 ⟨rfl, hb⟩
  have HB4 : Hid (Below w.heap.size w w4) := bt HB3.out hb
  have HA4 : Hid (w4.heap[w.heap.size]? = some (.cells #[.int .i64 id, .int .i64 view, .int .i64 h0, .int .i64 h1, .int .i64 h2, .int .i64 h3, .int .i64 l0, .int .i64 l1, .int .i64 l2, .int .i64 l3, .int .i64 a0, .int .i64 a1, .int .i64 a2, .int .i64 a3, .slice sar row.length scr, .slice sac cells.length scc, .slice sae early.length sce, .slice sau undos.length scu, .slice sav votes.length scv, .slice san news.length scn, .int .i64 shown] 41 (0, 0))) := (hb.block _ (Array.getElem?_eq_some_iff.1 HA3.out).1).trans HA3.out
  have HC4 : Hid (w4.heap[w.heap.size + 1]? = some (.cells #[.int .i64 id, .int .i64 view, .int .i64 h0, .int .i64 h1, .int .i64 h2, .int .i64 h3, .int .i64 l0, .int .i64 l1, .int .i64 l2, .int .i64 l3, .int .i64 a0, .int .i64 a1, .int .i64 a2, .int .i64 a3, .slice tar row.length tcr, .slice tac cells.length tcc, .slice tae early.length tce, .slice tau undos.length tcu, .slice tav votes.length tcv, .slice tan news.length tcn, .int .i64 shown] 41 (0, 0))) := (hb.block _ (Array.getElem?_eq_some_iff.1 HC3.out).1).trans HC3.out
  clear hb HB3 HA3 HC3
  have c15 := blk_cell HA4.out 15 (.slice sac cells.length scc) rfl
  have d15 := blk_cell HC4.out 15 (.slice tac cells.length tcc) rfl
  go_wp2_with fail
  clear c15 d15
  refine (eqCells_yes cells _ _ w4 (HR.out.cells.below HB4.out) (HT.out.cells.below HB4.out) HS.out.cells).mono ?_
  rintro e w5 ⟨rfl, hb⟩
  have HB5 : Hid (Below w.heap.size w w5) := bt HB4.out hb
  have HA5 : Hid (w5.heap[w.heap.size]? = some (.cells #[.int .i64 id, .int .i64 view, .int .i64 h0, .int .i64 h1, .int .i64 h2, .int .i64 h3, .int .i64 l0, .int .i64 l1, .int .i64 l2, .int .i64 l3, .int .i64 a0, .int .i64 a1, .int .i64 a2, .int .i64 a3, .slice sar row.length scr, .slice sac cells.length scc, .slice sae early.length sce, .slice sau undos.length scu, .slice sav votes.length scv, .slice san news.length scn, .int .i64 shown] 41 (0, 0))) := (hb.block _ (Array.getElem?_eq_some_iff.1 HA4.out).1).trans HA4.out
  have HC5 : Hid (w5.heap[w.heap.size + 1]? = some (.cells #[.int .i64 id, .int .i64 view, .int .i64 h0, .int .i64 h1, .int .i64 h2, .int .i64 h3, .int .i64 l0, .int .i64 l1, .int .i64 l2, .int .i64 l3, .int .i64 a0, .int .i64 a1, .int .i64 a2, .int .i64 a3, .slice tar row.length tcr, .slice tac cells.length tcc, .slice tae early.length tce, .slice tau undos.length tcu, .slice tav votes.length tcv, .slice tan news.length tcn, .int .i64 shown] 41 (0, 0))) := (hb.block _ (Array.getElem?_eq_some_iff.1 HC4.out).1).trans HC4.out
  clear hb HB4 HA4 HC4
  have c16 := blk_cell HA5.out 16 (.slice sae early.length sce) rfl
  have d16 := blk_cell HC5.out 16 (.slice tae early.length tce) rfl
  go_wp2_with fail
  clear c16 d16
  refine (eqInts_yes early _ _ w5 (HR.out.early.below HB5.out) (HT.out.early.below HB5.out) HS.out.early).mono ?_
  rintro e w6 ⟨rfl, hb⟩
  have HB6 : Hid (Below w.heap.size w w6) := bt HB5.out hb
  have HA6 : Hid (w6.heap[w.heap.size]? = some (.cells #[.int .i64 id, .int .i64 view, .int .i64 h0, .int .i64 h1, .int .i64 h2, .int .i64 h3, .int .i64 l0, .int .i64 l1, .int .i64 l2, .int .i64 l3, .int .i64 a0, .int .i64 a1, .int .i64 a2, .int .i64 a3, .slice sar row.length scr, .slice sac cells.length scc, .slice sae early.length sce, .slice sau undos.length scu, .slice sav votes.length scv, .slice san news.length scn, .int .i64 shown] 41 (0, 0))) := (hb.block _ (Array.getElem?_eq_some_iff.1 HA5.out).1).trans HA5.out
  have HC6 : Hid (w6.heap[w.heap.size + 1]? = some (.cells #[.int .i64 id, .int .i64 view, .int .i64 h0, .int .i64 h1, .int .i64 h2, .int .i64 h3, .int .i64 l0, .int .i64 l1, .int .i64 l2, .int .i64 l3, .int .i64 a0, .int .i64 a1, .int .i64 a2, .int .i64 a3, .slice tar row.length tcr, .slice tac cells.length tcc, .slice tae early.length tce, .slice tau undos.length tcu, .slice tav votes.length tcv, .slice tan news.length tcn, .int .i64 shown] 41 (0, 0))) := (hb.block _ (Array.getElem?_eq_some_iff.1 HC5.out).1).trans HC5.out
  clear hb HB5 HA5 HC5
  have c17 := blk_cell HA6.out 17 (.slice sau undos.length scu) rfl
  have d17 := blk_cell HC6.out 17 (.slice tau undos.length tcu) rfl
  go_wp2_with fail
  clear c17 d17
  refine (eqUndos_yes undos _ _ w6 (HR.out.undos.below HB6.out) (HT.out.undos.below HB6.out) HS.out.undos).mono ?_
  rintro e w7 ⟨rfl, hb⟩
  have HB7 : Hid (Below w.heap.size w w7) := bt HB6.out hb
  have HA7 : Hid (w7.heap[w.heap.size]? = some (.cells #[.int .i64 id, .int .i64 view, .int .i64 h0, .int .i64 h1, .int .i64 h2, .int .i64 h3, .int .i64 l0, .int .i64 l1, .int .i64 l2, .int .i64 l3, .int .i64 a0, .int .i64 a1, .int .i64 a2, .int .i64 a3, .slice sar row.length scr, .slice sac cells.length scc, .slice sae early.length sce, .slice sau undos.length scu, .slice sav votes.length scv, .slice san news.length scn, .int .i64 shown] 41 (0, 0))) := (hb.block _ (Array.getElem?_eq_some_iff.1 HA6.out).1).trans HA6.out
  have HC7 : Hid (w7.heap[w.heap.size + 1]? = some (.cells #[.int .i64 id, .int .i64 view, .int .i64 h0, .int .i64 h1, .int .i64 h2, .int .i64 h3, .int .i64 l0, .int .i64 l1, .int .i64 l2, .int .i64 l3, .int .i64 a0, .int .i64 a1, .int .i64 a2, .int .i64 a3, .slice tar row.length tcr, .slice tac cells.length tcc, .slice tae early.length tce, .slice tau undos.length tcu, .slice tav votes.length tcv, .slice tan news.length tcn, .int .i64 shown] 41 (0, 0))) := (hb.block _ (Array.getElem?_eq_some_iff.1 HC6.out).1).trans HC6.out
  clear hb HB6 HA6 HC6
  have c18 := blk_cell HA7.out 18 (.slice sav votes.length scv) rfl
  have d18 := blk_cell HC7.out 18 (.slice tav votes.length tcv) rfl
  go_wp2_with fail
  clear c18 d18
  refine (eqVotes_yes votes _ _ w7 (HR.out.votes.below HB7.out) (HT.out.votes.below HB7.out) HS.out.votes).mono ?_
  rintro e w8 ⟨rfl, hb⟩
  have HB8 : Hid (Below w.heap.size w w8) := bt HB7.out hb
  have HA8 : Hid (w8.heap[w.heap.size]? = some (.cells #[.int .i64 id, .int .i64 view, .int .i64 h0, .int .i64 h1, .int .i64 h2, .int .i64 h3, .int .i64 l0, .int .i64 l1, .int .i64 l2, .int .i64 l3, .int .i64 a0, .int .i64 a1, .int .i64 a2, .int .i64 a3, .slice sar row.length scr, .slice sac cells.length scc, .slice sae early.length sce, .slice sau undos.length scu, .slice sav votes.length scv, .slice san news.length scn, .int .i64 shown] 41 (0, 0))) := (hb.block _ (Array.getElem?_eq_some_iff.1 HA7.out).1).trans HA7.out
  have HC8 : Hid (w8.heap[w.heap.size + 1]? = some (.cells #[.int .i64 id, .int .i64 view, .int .i64 h0, .int .i64 h1, .int .i64 h2, .int .i64 h3, .int .i64 l0, .int .i64 l1, .int .i64 l2, .int .i64 l3, .int .i64 a0, .int .i64 a1, .int .i64 a2, .int .i64 a3, .slice tar row.length tcr, .slice tac cells.length tcc, .slice tae early.length tce, .slice tau undos.length tcu, .slice tav votes.length tcv, .slice tan news.length tcn, .int .i64 shown] 41 (0, 0))) := (hb.block _ (Array.getElem?_eq_some_iff.1 HC7.out).1).trans HC7.out
  clear hb HB7 HA7 HC7
  have c19 := blk_cell HA8.out 19 (.slice san news.length scn) rfl
  have d19 := blk_cell HC8.out 19 (.slice tan news.length tcn) rfl
  go_wp2_with fail
  clear c19 d19
  refine (eqLetters_yes news _ _ w8 (HR.out.news.below HB8.out) (HT.out.news.below HB8.out) HS.out.news).mono ?_
  rintro e w9 ⟨rfl, hb⟩
  have HB9 : Hid (Below w.heap.size w w9) := bt HB8.out hb
  have HA9 : Hid (w9.heap[w.heap.size]? = some (.cells #[.int .i64 id, .int .i64 view, .int .i64 h0, .int .i64 h1, .int .i64 h2, .int .i64 h3, .int .i64 l0, .int .i64 l1, .int .i64 l2, .int .i64 l3, .int .i64 a0, .int .i64 a1, .int .i64 a2, .int .i64 a3, .slice sar row.length scr, .slice sac cells.length scc, .slice sae early.length sce, .slice sau undos.length scu, .slice sav votes.length scv, .slice san news.length scn, .int .i64 shown] 41 (0, 0))) := (hb.block _ (Array.getElem?_eq_some_iff.1 HA8.out).1).trans HA8.out
  have HC9 : Hid (w9.heap[w.heap.size + 1]? = some (.cells #[.int .i64 id, .int .i64 view, .int .i64 h0, .int .i64 h1, .int .i64 h2, .int .i64 h3, .int .i64 l0, .int .i64 l1, .int .i64 l2, .int .i64 l3, .int .i64 a0, .int .i64 a1, .int .i64 a2, .int .i64 a3, .slice tar row.length tcr, .slice tac cells.length tcc, .slice tae early.length tce, .slice tau undos.length tcu, .slice tav votes.length tcv, .slice tan news.length tcn, .int .i64 shown] 41 (0, 0))) := (hb.block _ (Array.getElem?_eq_some_iff.1 HC8.out).1).trans HC8.out
  clear hb HB8 HA8 HC8
  have c20 := blk_cell HA9.out 20 (.int .i64 shown) rfl
  have d20 := blk_cell HC9.out 20 (.int .i64 shown) rfl
  go_wp2
  go_ret
  exact ⟨rfl, HB9.out⟩

end Go.Proofs.Ytdopefimjabigat
