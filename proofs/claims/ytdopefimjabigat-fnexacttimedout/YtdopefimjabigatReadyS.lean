/-
  Whether a leader is ready: the contract of the specification's Ready. (Made by grs13.py.)
-/
import Derived.Test.YtdopefimjabigatSafeS
import Derived.Test.YtdopefimjabigatJ0
namespace Go.Proofs.Ytdopefimjabigat
open Go.RowKit Num

/-- whether it leads its View, showed nothing of it yet, and heard of enough, or begins, or (with chain) has what the View below signed -/
def readyB (p : PE) (n : Int) (chain : Bool) : Bool :=
  if leaderT p.view n = p.id ∧ p.shown < p.view then decide (quorumT n ≤ p.news.length) || (decide (p.view = 1) || (chain && decide (p.high.2.1 = p.view - 1))) else false

theorem leader_is {view n r : Int} (h : leaderT view n = r) (hn0 : -9223372036854775808 ≤ n) (hn1 : n ≤ 9223372036854775807) (hv0 : -9223372036854775808 ≤ view) (hv1 : view ≤ 9223372036854775807) (w : World) :
    Calls Try.prog 21 #[.int .i64 view, .int .i64 n] w fun e w' => e = .returned (.int .i64 r) ∧ w' = w := by rw [← h]; exact leader_s view n w hn0 hn1 hv0 hv1

end Go.Proofs.Ytdopefimjabigat
