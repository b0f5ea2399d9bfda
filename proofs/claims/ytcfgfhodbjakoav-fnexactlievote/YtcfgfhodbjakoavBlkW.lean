/-
  How much a tree weighs: its blocks and their commands.
-/
import Derived.Test.YtcfgfhodbjakoavBlkM
namespace Go.Proofs.Ytcfgfhodbjakoav
open Go.RowKit Num

def wtC : List BK → Nat
  | [] => 0
  | b :: t => b.2.1.length + wtC t
def wtB (t : List BK) : Nat := t.length + wtC t
theorem wtC_app (t u : List BK) : wtC (t ++ u) = wtC t + wtC u := by
  induction t with
  | nil => simp [wtC]
  | cons b t ih => simp [wtC, ih]; omega
theorem szCmds_wt {l : List CM} {left : Int} (h : 0 ≤ szCmdsC l left) : szCmdsC l left ≤ left - l.length := by
  unfold szCmdsC at h ⊢
  split at h
  · omega
  · rename_i hn
    rw [if_neg hn]
    have := szq_le l (left - l.length)
    omega
theorem szBk_wt {b : BK} {left : Int} (h : 0 ≤ szBk b left) : szBk b left ≤ left - b.2.1.length := by
  unfold szBk at h ⊢
  split at h
  · omega
  · rename_i hn
    rw [if_neg hn]
    exact szCmds_wt (Int.not_lt.1 hn)
theorem szBq_wt (t : List BK) : ∀ left : Int, 0 ≤ szBq t left → szBq t left ≤ left - wtC t := by
  induction t with
  | nil => intro left _; simp [szBq, wtC]
  | cons b t ih =>
    intro left h
    unfold szBq at h ⊢
    split at h
    · omega
    · rename_i hn
      rw [if_neg hn]
      have h1 := szBk_wt (Int.not_lt.1 hn)
      have h2 := ih _ h
      simp only [wtC]
      omega
theorem szBlocks_wt {t : List BK} {left : Int} (h : 0 ≤ szBlocksC t left) : szBlocksC t left ≤ left - wtB t := by
  unfold szBlocksC at h ⊢
  split at h
  · omega
  · rename_i hn
    rw [if_neg hn]
    have := szBq_wt t _ h
    unfold wtB
    omega
theorem putT_or (t : List BK) (b : BK) : putT t b = t ∨ putT t b = t ++ [b] ∧ t.length < 60 := by
  unfold putT
  split
  · exact Or.inl rfl
  · split
    · exact Or.inl rfl
    · rename_i h
      exact Or.inr ⟨rfl, Nat.not_le.1 fun h' => h (Or.inr h')⟩
theorem putT_wt (t : List BK) (b : BK) : wtB (putT t b) ≤ wtB t + 1 + b.2.1.length := by
  rcases putT_or t b with h | ⟨h, _⟩
  · rw [h]; omega
  · rw [h]; unfold wtB; rw [wtC_app]; simp [wtC]; omega
theorem okT_put {t : List BK} {b : BK} (h : okT t) (hb : okB b) : okT (putT t b) := by
  rcases putT_or t b with e | ⟨e, hl⟩
  · rw [e]; exact h
  · rw [e]
    refine ⟨by simp; omega, fun x hx => ?_⟩
    rcases List.mem_append.1 hx with hx | hx
    · exact h.2 x hx
    · simp at hx; subst hx; exact hb
/-- what a tree's blocks are bound by -/
theorem okT_cmds {ps : TL} {t : List BK} (h : okT t) (e : bks ps = t) : ∀ p ∈ ps, p.1.2.1.length ≤ 1048576 := fun p hp => by
  have := (h.2 p.1 (by rw [← e]; exact List.mem_map.2 ⟨p, hp, rfl⟩)).1
  omega
theorem okT_len {ps : TL} {t : List BK} (h : okT t) (e : bks ps = t) : (ps.length : Int) ≤ 10000000 := by
  have := h.1
  rw [← e, bks_len] at this
  omega
/-- blocks from lo on, up to hi, are as they were -/
def Kp (lo hi : Nat) (w w' : World) : Prop := ∀ g, lo ≤ g → g < hi → w'.heap[g]? = w.heap[g]?
theorem Kp.trans {lo hi : Nat} {a b c : World} (h : Kp lo hi a b) (k : Kp lo hi b c) : Kp lo hi a c := fun g h1 h2 => (k g h1 h2).trans (h g h1 h2)
theorem Kp.of_below {lo hi n : Nat} {w w' : World} (h : Below n w w') (hn : hi ≤ n) : Kp lo hi w w' := fun g _ h2 => h.block g (by omega)
theorem Kp.of_wn {lo hi l2 h2 : Nat} {w w' : World} (h : Wn l2 h2 w w') (hs : hi ≤ w.heap.size) (hd : hi ≤ l2 ∨ h2 ≤ lo) : Kp lo hi w w' := fun g ha hb => h.block g (by omega) (by omega)
theorem Kp.of_grown {lo hi : Nat} {w w' : World} {r : Option Nat} (h : w.grownBy w' r) (hs : hi ≤ w.heap.size) (hd : ∀ g, r = some g → g < lo ∨ hi ≤ g) : Kp lo hi w w' := fun g ha hb => h.block g (by omega) fun e => by have := hd g e.symm; omega
theorem OwnT.kp {w w' : World} {base : Nat} {v : Value} {ps : TL} (h : OwnT w base v ps) (k : Kp base w.heap.size w w') : OwnT w' base v ps := h.same k
theorem own_kp {w w' : World} {base m n : Nat} {e : TypeId} {v : Value} {xs : List Value} (h : w.ownsRow base e m v n xs) (k : Kp base w.heap.size w w') : w'.ownsRow base e m v n xs := own_same h fun g hg => k g (h.lt g hg).1 (h.lt g hg).2
theorem ownT_lim {w w' : World} {base hi : Nat} {v : Value} {ps : TL} (h : OwnT w base v ps) (hl : LimT hi v ps) (k : ∀ g, base ≤ g → g < hi → w'.heap[g]? = w.heap[g]?) : OwnT w' base v ps :=
  ⟨own_same h.row fun g hg => k g (h.row.lt g hg).1 (hl.1 g hg), fun p hp => own_same (h.cmds p hp) fun g hg => k g ((h.cmds p hp).lt g hg).1 (hl.2 p hp g hg), h.apart⟩

end Go.Proofs.Ytcfgfhodbjakoav
