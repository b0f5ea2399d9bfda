/-
  A new cluster: the contract of the specification's ClusterNew. (Made by gcn15.py.)
-/
import Derived.Test.YtjieklilojmifauGreatRClusQ
import Derived.Test.YtjieklilojmifauGreatRJ0
namespace Go.Proofs.YtjieklilojmifauGreatR
open Go.RowKit Num

def okNew (n l : Int) : Bool := inB n 1 7 && (inB l 0 (wrap64 (wrap64 (2 ^ n.toNat) - 1)) && !decide (faultsT n < countT l))
def freshP (m : Nat) : List PE := (List.range m).map fun (i : Nat) => newP (i : Int)
def newC (n : Int) (b : Bool) (l : Int) : CU := ⟨n, b, l, [firstB], freshP n.toNat, [], [], []⟩
def zeroCU : CU := ⟨0, false, 0, [], [], [], [], []⟩
def zeroCW : CW := ⟨.slice none 0 0, [], .slice none 0 0, [], .slice none 0 0, .slice none 0 0, .slice none 0 0⟩
def clusterNewF (n : Int) (b : Bool) (l : Int) : CU × Bool := if okNew n l then (newC n b l, true) else (zeroCU, false)
theorem eight_one {a b c d e f g h : Value} (h0 : a.oneCell' = true) (h1 : b.oneCell' = true) (h2 : c.oneCell' = true) (h3 : d.oneCell' = true) (h4 : e.oneCell' = true) (h5 : f.oneCell' = true) (h6 : g.oneCell' = true) (h7 : h.oneCell' = true) : (#[a, b, c, d, e, f, g, h] : Array Value).all (·.oneCell') = true := by simp [h0, h1, h2, h3, h4, h5, h6, h7]
theorem own_nil (w : World) (base m : Nat) (e : TypeId) : w.ownsRow base e m (.slice none 0 0) 0 [] := ⟨by simp, Or.inl ⟨rfl, rfl⟩⟩
theorem zero_own {lo : Nat} {w : World} (h : lo ≤ w.heap.size) : OwnC lo w.heap.size w zeroCU zeroCW := by
  refine ownC_of (b1 := w.heap.size) (b2 := w.heap.size) (b3 := w.heap.size) (b4 := w.heap.size) rfl ⟨own_nil _ _ _ _, fun p hp => (by cases hp), List.Pairwise.nil⟩ (fun g hg => ?_) rfl ⟨own_nil _ _ _ _, OwnE.nil _ _⟩ (fun g hg => ?_) (own_nil _ _ _ _) (fun g hg => (by cases hg)) (own_nil _ _ _ _) (fun g hg => (by cases hg)) (own_nil _ _ _ _) (fun g hg => (by cases hg)) h (Nat.le_refl _) (Nat.le_refl _) (Nat.le_refl _) (Nat.le_refl _) (Nat.le_refl _)
  · rcases hg with hg | ⟨p, hp, _⟩
    · cases hg
    · cases hp
  · rcases hg with hg | ⟨p, hp, _⟩
    · cases hg
    · cases hp

theorem fresh_small (i : Int) : smallPe (newP i) ∧ lenPe (newP i) = 0 := by
  unfold newP
  exact ⟨⟨by simp, by simp, by simp, by simp, by simp, by simp, fun c hc => (by simp at hc), fun c hc => (by simp at hc)⟩, by simp [lenPe]⟩
theorem fresh_len (m : Nat) : lenPs (freshP m) = 0 := by
  induction m with
  | zero => rfl
  | succ m ih =>
    have e : freshP (m + 1) = freshP m ++ [newP (m : Int)] := by unfold freshP; rw [List.range_succ, List.map_append]; rfl
    rw [e, lenPs_app, ih]
    simp only [lenPs, (fresh_small (m : Int)).2]
theorem clusterNew_fit : Fit3 clusterNewF := fun n b l => by
  unfold clusterNewF
  split
  · rename_i h
    have hn : n ≤ 7 := by
      unfold okNew at h
      simp only [Bool.and_eq_true] at h
      have := h.1
      unfold inB at this
      simp at this
      exact this.2
    have hfl : (freshP n.toNat).length ≤ 7 := by simp [freshP]; omega
    show okC (newC n b l) ∧ wtCl (newC n b l) ≤ 1200000
    refine ⟨⟨⟨by simp [newC], fun x hx => ?_⟩, by show ((freshP n.toNat).length : Int) ≤ 1048576; omega, fun p hp => ?_, by simp [newC], by simp [newC], ⟨by simp [newC], fun x hx => (by simp [newC] at hx)⟩⟩, ?_⟩
    · simp only [newC, List.mem_cons, List.not_mem_nil, or_false] at hx
      subst hx
      exact ⟨by simp [firstB], fun c hc => (by simp [firstB] at hc)⟩
    · have hp' : p ∈ freshP n.toNat := hp
      unfold freshP at hp'
      obtain ⟨i, _, rfl⟩ := List.mem_map.1 hp'
      exact (fresh_small _).1
    · have hf := fresh_len n.toNat
      unfold wtCl newC wtB
      simp only [hf, wtC, firstB, List.length_cons, List.length_nil]
      omega
  · exact ⟨⟨⟨by simp [zeroCU], fun x hx => (by simp [zeroCU] at hx)⟩, by simp [zeroCU], fun p hp => (by simp [zeroCU] at hp), by simp [zeroCU], by simp [zeroCU], ⟨by simp [zeroCU], fun x hx => (by simp [zeroCU] at hx)⟩⟩, by simp [wtCl, zeroCU, wtB, wtC, lenPs]⟩
/-- letters put behind the others: what the law asks -/
def postF (c : CU) (l : List LT) : CU × Bool := (postC c l, postB c l)
theorem post_con : ConL 8 postF := fun c s lo hi l lv _ w ho hk _ _ hl hll _ => postC_s c s lo hi l lv w ho hk (rows_of_own letF_len hl) hll
theorem post_fitL : FitL postF := fun c l hk hw => by
  show okC (postC c l) ∧ wtCl (postC c l) ≤ 1200000
  by_cases h : 60 < c.net.length + l.length
  · have e : postC c l = c := if_pos h
    rw [e]
    exact ⟨hk, by omega⟩
  · exact post_fit hk hw (by omega)

end Go.Proofs.YtjieklilojmifauGreatR
