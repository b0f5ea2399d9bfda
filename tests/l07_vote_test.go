package tests

import (
	"go/ast"
	"go/parser"
	"go/token"
	"math"
	"math/big"
	"slices"
	"strconv"
	"strings"
	"testing"

	"loop.example/g00330/impl"
)

// somePeers are numbers of replicas: right ones, the edges, and such as nobody has.
func somePeers() []int {
	return []int{math.MinInt, -8, -1, 0, 1, 2, 3, 4, 5, 6, 7, 8, 9, 64, 65, 1000, math.MaxInt}
}

// somePhases are the four, and such as are none.
func somePhases() []int {
	return []int{math.MinInt, -1, 0, impl.PhOne, impl.PhTwo, impl.PhThree, impl.PhChain, 5, math.MaxInt}
}

// someBys are those who may vote, and such as nobody is.
func someBys() []int {
	return []int{math.MinInt, -64, -7, -2, -1, 0, 1, 2, 3, 4, 5, 6, 7, 8, 31, 32, 62, 63, 64, 65, 70, 128, math.MaxInt}
}

// someSigners are sets of bits: all of the lowest ones, each bit there is alone and with those of the lowest, and numbers below 0.
func someSigners() []int {
	out := []int{math.MinInt, math.MinInt + 1, math.MinInt + 127, -129, -128, -127, -2, -1, 1<<impl.MaxPeers + 127, math.MaxInt - 127, math.MaxInt - 1, math.MaxInt}
	for bits := range 1 << (impl.MaxPeers + 1) {
		out = append(out, bits)
	}
	for bit := impl.MaxPeers + 1; bit < 63; bit++ {
		out = append(out, 1<<bit, 1<<bit|5, 1<<bit|127)
	}
	return out
}

// votesOf are votes for one block of those whose bits stand in signers.
func votesOf(phase int, view int, block int, signers int) []impl.Vote {
	var out []impl.Vote
	for by := range 63 {
		if signers>>by&1 == 1 {
			out = append(out, impl.Vote{Phase: phase, View: view, Block: block, By: by})
		}
	}
	return out
}

// voteTree is a tree with blocks of View 1 and of MaxView, and with two blocks of one View.
func voteTree() []impl.Block {
	tree := []impl.Block{first()}
	tree = append(tree, on(tree, 0, 1, set("a", 1)))
	tree = append(tree, on(tree, 1, 2), on(tree, 0, 2), on(tree, 1, impl.MaxView))
	return append(tree, on(tree, 2, 7))
}

// someVotes are votes of several for several blocks, right and not, many of them twice.
func someVotes() []impl.Vote {
	out := slices.Concat(votesOf(impl.PhOne, 1, 1, 13), votesOf(impl.PhTwo, 1, 1, 6), votesOf(impl.PhChain, 2, 2, 127), votesOf(impl.PhChain, 2, 3, 9))
	for _, by := range someBys() {
		out = append(out, impl.Vote{Phase: impl.PhThree, View: 7, Block: 5, By: by}, impl.Vote{By: by}, impl.Vote{Phase: -1, View: -2, Block: -3, By: by})
	}
	return append(out, out...)
}

// someVoteLists are lists of votes, each one with all that stand ahead of it.
func someVoteLists() [][]impl.Vote {
	all := someVotes()
	lists := [][]impl.Vote{nil, {}, all}
	for i := range all {
		lists = append(lists, all[i:i+1])
		if i%5 == 0 {
			lists = append(lists, all[:i], all[i:])
		}
	}
	return lists
}

// askedVotes are what votes may be asked for: Phase, View and Block.
func askedVotes() []impl.Qc {
	return []impl.Qc{
		{Phase: impl.PhOne, View: 1, Block: 1}, {Phase: impl.PhTwo, View: 1, Block: 1}, {Phase: impl.PhThree, View: 1, Block: 1}, {Phase: impl.PhOne, View: 2, Block: 1},
		{Phase: impl.PhChain, View: 2, Block: 2}, {Phase: impl.PhChain, View: 2, Block: 3}, {Phase: impl.PhChain, View: 1, Block: 2}, {Phase: impl.PhThree, View: 7, Block: 5},
		{}, {Phase: -1, View: -2, Block: -3}, {Phase: 5, View: 1, Block: 1}, {Phase: math.MaxInt, View: math.MinInt, Block: math.MaxInt},
	}
}

// plainVoteOk, plainSigners, plainCount, plainQcRight, plainQcOf and plainProven are the chapter's own words, one signer at a time.
func plainVoteOk(tree []impl.Block, n int, v impl.Vote) bool {
	if n < 1 || n > 7 || v.By < 0 || v.By >= n {
		return false
	}
	if v.Phase != 1 && v.Phase != 2 && v.Phase != 3 && v.Phase != 4 {
		return false
	}
	if v.View < 1 || v.View > 900 || v.Block < 1 || v.Block >= len(tree) {
		return false
	}
	return tree[v.Block].View == v.View
}

func plainSigners(votes []impl.Vote, phase int, view int, block int) int {
	sum := 0
	for by, two := 0, 1; by < 7; by, two = by+1, two*2 {
		if slices.Contains(votes, impl.Vote{Phase: phase, View: view, Block: block, By: by}) {
			sum += two
		}
	}
	return sum
}

func plainCount(signers int) int {
	if signers < 0 {
		return 0
	}
	figures := strconv.FormatInt(int64(signers), 2)
	return strings.Count(figures[max(0, len(figures)-7):], "1")
}

func plainQuorum(n int) int {
	if n < 1 {
		return n
	}
	third := new(big.Int).Div(new(big.Int).Sub(big.NewInt(int64(n)), big.NewInt(1)), big.NewInt(3))
	return int(new(big.Int).Sub(big.NewInt(int64(n)), third).Int64())
}

func plainQcRight(tree []impl.Block, n int, q impl.Qc) bool {
	if q.Phase == 0 && q.View == 0 && q.Block == 0 && q.Signers == 0 {
		return true
	}
	if !plainVoteOk(tree, n, impl.Vote{Phase: q.Phase, View: q.View, Block: q.Block}) {
		return false
	}
	high := 1
	for range n {
		high *= 2
	}
	return q.Signers >= 0 && q.Signers <= high-1 && plainCount(q.Signers) >= plainQuorum(n)
}

func plainQcOf(votes []impl.Vote, phase int, view int, block int, n int) (impl.Qc, bool) {
	signers := plainSigners(votes, phase, view, block)
	if plainCount(signers) < plainQuorum(n) {
		return impl.Qc{}, false
	}
	return impl.Qc{Phase: phase, View: view, Block: block, Signers: signers}, true
}

// A bit that nobody has is a signer who gave no vote; a number below 0 has the bits that a machine gives it.
func plainProven(votes []impl.Vote, q impl.Qc, liars int) bool {
	if q.View == 0 {
		return true
	}
	for by := range 64 {
		if uint64(q.Signers)>>by%2 == 0 || uint64(liars)>>by%2 == 1 {
			continue
		}
		if by >= 7 || !slices.Contains(votes, impl.Vote{Phase: q.Phase, View: q.View, Block: q.Block, By: by}) {
			return false
		}
	}
	return true
}

func holdVote(t *testing.T, tree []impl.Block, n int, v impl.Vote, want bool) {
	t.Helper()
	if got := impl.VoteOk(tree, n, v); got != want {
		t.Fatalf("VoteOk(%.300v, %d, %+v) = %v", tree, n, v, got)
	}
}

func holdQc(t *testing.T, tree []impl.Block, n int, q impl.Qc, want bool) {
	t.Helper()
	if got := impl.QcRight(tree, n, q); got != want {
		t.Fatalf("QcRight(%.300v, %d, %+v) = %v", tree, n, q, got)
	}
}

func holdQcOf(t *testing.T, votes []impl.Vote, q impl.Qc, n int, want impl.Qc, enough bool) {
	t.Helper()
	if got, ok := impl.QcOf(votes, q.Phase, q.View, q.Block, n); got != want || ok != enough {
		t.Fatalf("QcOf(%v, %d, %d, %d, %d) = %+v, %v, want %+v, %v", votes, q.Phase, q.View, q.Block, n, got, ok, want, enough)
	}
}

func holdProven(t *testing.T, votes []impl.Vote, q impl.Qc, liars int, want bool) {
	t.Helper()
	if got := impl.Proven(votes, q, liars); got != want {
		t.Fatalf("Proven(%v, %+v, %d) = %v", votes, q, liars, got)
	}
}

func TestVoteConstants(t *testing.T) {
	if impl.PhOne != 1 || impl.PhTwo != 2 || impl.PhThree != 3 || impl.PhChain != 4 || impl.MaxPeers != 7 {
		t.Error("a constant is not the document's")
	}
}

func TestFaultsAndQuorum(t *testing.T) {
	for _, c := range []struct{ n, faults, quorum int }{
		{math.MinInt, 0, math.MinInt}, {-8, 0, -8}, {-2, 0, -2}, {-1, 0, -1}, {0, 0, 0},
		{1, 0, 1}, {2, 0, 2}, {3, 0, 3}, {4, 1, 3}, {5, 1, 4}, {6, 1, 5}, {7, 2, 5}, {8, 2, 6}, {9, 2, 7}, {10, 3, 7}, {100, 33, 67},
		{math.MaxInt, 3074457345618258602, 6148914691236517205},
	} {
		if faults, quorum := impl.Faults(c.n), impl.Quorum(c.n); faults != c.faults || quorum != c.quorum {
			t.Errorf("Faults(%d) = %d, and Quorum is %d, want %d and %d", c.n, faults, quorum, c.faults, c.quorum)
		}
	}
	for n := -50; n < 500; n++ {
		if impl.Quorum(n) != plainQuorum(n) || impl.Quorum(n)+impl.Faults(n) != n {
			t.Errorf("Quorum(%d) = %d, and Faults is %d", n, impl.Quorum(n), impl.Faults(n))
		}
		// Three times as many as lie are fewer than all, and one more that lies were too many.
		if f := impl.Faults(n); n >= 1 && (3*f >= n || 3*(f+1) < n) {
			t.Errorf("Faults(%d) = %d", n, f)
		}
	}
}

func TestLeaderOf(t *testing.T) {
	for _, c := range []struct{ view, n, want int }{
		{0, 4, 0}, {1, 4, 0}, {3, 4, 0}, {4, 4, 1}, {7, 4, 1}, {8, 4, 2}, {11, 4, 2}, {12, 4, 3}, {15, 4, 3}, {16, 4, 0}, {20, 4, 1},
		{0, 1, 0}, {4, 1, 0}, {900, 1, 0}, {4, 2, 1}, {8, 2, 0}, {4, 3, 1}, {12, 3, 0}, {24, 6, 0}, {23, 6, 5}, {27, 7, 6}, {28, 7, 0}, {28, 8, 7}, {900, 7, 1},
		{3, 0, 0}, {4, 0, 0}, {4, -1, 0}, {7, -3, 0}, {4, math.MinInt, 0}, {math.MaxInt, 0, 0}, {math.MaxInt, -1, 0}, {math.MaxInt, math.MinInt, 0},
		{-1, 4, 0}, {-4, 4, 0}, {-5, 4, 0}, {-20, 7, 0}, {math.MinInt, 4, 0}, {math.MinInt, 7, 0}, {math.MinInt, math.MinInt, 0}, {-1, -1, 0}, {-8, -1, 0}, {math.MinInt, -1, 0},
		{math.MaxInt, 1, 0}, {math.MaxInt, 4, 3}, {math.MaxInt, 7, 1}, {math.MaxInt, math.MaxInt, 2305843009213693951}, {3, math.MaxInt, 0}, {400, math.MaxInt, 100},
	} {
		if got := impl.LeaderOf(c.view, c.n); got != c.want {
			t.Errorf("LeaderOf(%d, %d) = %d, want %d", c.view, c.n, got, c.want)
		}
	}
}

// One leads four Views in a row, and the next four the next one, round and round.
func TestLeadersTakeTurns(t *testing.T) {
	for n := 1; n <= impl.MaxPeers+3; n++ {
		view := 0
		for turn := range 400 {
			for range 4 {
				if got := impl.LeaderOf(view, n); got != turn%n {
					t.Fatalf("LeaderOf(%d, %d) = %d, want %d", view, n, got, turn%n)
				}
				view++
			}
		}
	}
}

func TestVoteOkEdges(t *testing.T) {
	tree := voteTree()
	right := impl.Vote{Phase: impl.PhOne, View: 1, Block: 1, By: 0}
	for _, n := range somePeers() {
		holdVote(t, tree, n, right, n >= 1 && n <= impl.MaxPeers)
		for _, by := range someBys() {
			v := right
			v.By = by
			holdVote(t, tree, n, v, n >= 1 && n <= impl.MaxPeers && by >= 0 && by < n)
		}
	}
	for _, phase := range somePhases() {
		v := right
		v.Phase = phase
		holdVote(t, tree, 4, v, phase >= 1 && phase <= 4)
	}
	for _, view := range []int{math.MinInt, -1, 0, 1, 2, 3, impl.MaxView - 1, impl.MaxView, impl.MaxView + 1, math.MaxInt} {
		for _, block := range askedPlaces(tree) {
			v := right
			v.View, v.Block = view, block
			there := view == 1 && block == 1 || view == 2 && (block == 2 || block == 3) || view == impl.MaxView && block == 4
			holdVote(t, tree, 4, v, there)
		}
	}
	holdVote(t, tree, 7, impl.Vote{Phase: impl.PhChain, View: 7, Block: len(tree) - 1, By: 6}, true)
	holdVote(t, tree[:len(tree)-1], 7, impl.Vote{Phase: impl.PhChain, View: 7, Block: len(tree) - 1, By: 6}, false)
	holdVote(t, tree, 7, impl.Vote{}, false)
}

// The tree is asked for the block alone: whether it is right is not looked at.
func TestVoteOkOfWrongTrees(t *testing.T) {
	v := impl.Vote{Phase: impl.PhTwo, View: 5, Block: 2, By: 1}
	holdVote(t, nil, 4, v, false)
	holdVote(t, []impl.Block{}, 4, v, false)
	holdVote(t, []impl.Block{{}, {}, {View: 5}}, 4, v, true)
	holdVote(t, []impl.Block{{}, {}, {View: 4}}, 4, v, false)
	holdVote(t, make([]impl.Block, 200), 4, v, false)
	long := make([]impl.Block, 200)
	long[199].View = 5
	holdVote(t, long, 4, impl.Vote{Phase: impl.PhTwo, View: 5, Block: 199, By: 1}, true)
	// A block of a View that none can have gets no vote, and the first one does not with whatever View.
	for _, view := range []int{math.MinInt, -1, 0, impl.MaxView + 1, math.MaxInt} {
		holdVote(t, []impl.Block{{}, {}, {View: view}}, 4, impl.Vote{Phase: impl.PhTwo, View: view, Block: 2, By: 1}, false)
	}
	for _, view := range []int{0, 1, 5, impl.MaxView} {
		holdVote(t, []impl.Block{{View: view}, {View: view}}, 4, impl.Vote{Phase: impl.PhTwo, View: view, Block: 0, By: 1}, false)
	}
}

func TestVoteOkByTheWords(t *testing.T) {
	right := 0
	for _, tree := range append(allTrees(), voteTree()) {
		for _, block := range askedPlaces(tree) {
			views := []int{-1, 0, 1, impl.MaxView, impl.MaxView + 1}
			if block >= 0 && block < len(tree) {
				views = append(views, tree[block].View, tree[block].View+1)
			}
			for i, view := range views {
				for _, v := range []impl.Vote{{Phase: 1 + i%4, View: view, Block: block, By: 3}, {Phase: i, View: view, Block: block}} {
					for _, n := range []int{0, 1, 3, 4, 7, 8} {
						want := plainVoteOk(tree, n, v)
						holdVote(t, tree, n, v, want)
						if want {
							right++
						}
					}
				}
			}
		}
	}
	if right < 1000 {
		t.Errorf("only %d votes are right", right)
	}
}

func TestSignersOf(t *testing.T) {
	for _, c := range []struct {
		votes []impl.Vote
		want  int
	}{
		{nil, 0}, {[]impl.Vote{}, 0},
		{votesOf(1, 2, 3, 1), 1}, {votesOf(1, 2, 3, 64), 64}, {votesOf(1, 2, 3, 13), 13}, {votesOf(1, 2, 3, 127), 127},
		{votesOf(1, 2, 3, 128), 0}, {votesOf(1, 2, 3, 255), 127}, {votesOf(1, 2, 3, math.MaxInt), 127},
		{append(votesOf(1, 2, 3, 13), votesOf(1, 2, 3, 13)...), 13}, {append(votesOf(1, 2, 3, 9), votesOf(1, 2, 3, 12)...), 13},
		{votesOf(2, 2, 3, 13), 0}, {votesOf(1, 1, 3, 13), 0}, {votesOf(1, 2, 2, 13), 0},
		{slices.Concat(votesOf(2, 2, 3, 1), votesOf(1, 1, 3, 2), votesOf(1, 2, 2, 4), votesOf(1, 2, 3, 8), votesOf(1, 3, 3, 16), votesOf(3, 2, 1, 32)), 8},
		// One gave votes for two blocks: each one counts where it was given.
		{append(votesOf(1, 2, 4, 2), votesOf(1, 2, 3, 2)...), 2}, {append(votesOf(1, 2, 3, 2), votesOf(1, 2, 4, 2)...), 2},
	} {
		if got := impl.SignersOf(c.votes, 1, 2, 3); got != c.want {
			t.Errorf("SignersOf(%v, 1, 2, 3) = %d, want %d", c.votes, got, c.want)
		}
		turned := slices.Clone(c.votes)
		slices.Reverse(turned)
		if got := impl.SignersOf(turned, 1, 2, 3); got != c.want {
			t.Errorf("SignersOf(%v, 1, 2, 3) = %d, want %d", turned, got, c.want)
		}
	}
}

func TestSignersThatNobodyHas(t *testing.T) {
	for _, by := range someBys() {
		want := 0
		if by >= 0 && by < impl.MaxPeers {
			want = 1 << by
		}
		votes := []impl.Vote{{Phase: 1, View: 2, Block: 3, By: by}}
		if got := impl.SignersOf(votes, 1, 2, 3); got != want {
			t.Errorf("SignersOf(%v, 1, 2, 3) = %d, want %d", votes, got, want)
		}
		// The others count as they do without it.
		votes = slices.Concat(votesOf(1, 2, 3, 1), votes, votesOf(1, 2, 3, 64))
		if got := impl.SignersOf(votes, 1, 2, 3); got != want|65 {
			t.Errorf("SignersOf(%v, 1, 2, 3) = %d, want %d", votes, got, want|65)
		}
	}
}

// Votes that are not VoteOk count, too: no tree and no n is handed in.
func TestSignersOfByTheWords(t *testing.T) {
	for _, votes := range someVoteLists() {
		for _, q := range askedVotes() {
			if got, want := impl.SignersOf(votes, q.Phase, q.View, q.Block), plainSigners(votes, q.Phase, q.View, q.Block); got != want {
				t.Fatalf("SignersOf(%v, %d, %d, %d) = %d, want %d", votes, q.Phase, q.View, q.Block, got, want)
			}
		}
	}
}

func TestCountOf(t *testing.T) {
	for _, c := range []struct{ signers, want int }{
		{0, 0}, {1, 1}, {2, 1}, {3, 2}, {13, 3}, {63, 6}, {64, 1}, {127, 7}, {128, 0}, {129, 1}, {255, 7}, {256, 0}, {1 << 62, 0}, {1<<62 | 64, 1},
		{math.MaxInt, 7}, {math.MaxInt - 127, 0}, {-1, 0}, {-2, 0}, {-127, 0}, {-128, 0}, {math.MinInt, 0}, {math.MinInt + 1, 0}, {math.MinInt + 127, 0},
	} {
		if got := impl.CountOf(c.signers); got != c.want {
			t.Errorf("CountOf(%d) = %d, want %d", c.signers, got, c.want)
		}
	}
	for _, signers := range someSigners() {
		if got, want := impl.CountOf(signers), plainCount(signers); got != want {
			t.Errorf("CountOf(%d) = %d, want %d", signers, got, want)
		}
	}
}

func TestQcRightOfNothing(t *testing.T) {
	for _, tree := range append(allTrees(), voteTree()) {
		for _, n := range somePeers() {
			holdQc(t, tree, n, impl.Qc{}, true)
		}
		// Some parts 0, some not: it is no more nothing, and nothing else.
		for _, q := range []impl.Qc{{Phase: 1}, {View: 1}, {Block: 1}, {Signers: 1}, {Signers: 127}, {Phase: 4, Signers: 127}, {Phase: 1, View: 1, Signers: 127}, {Phase: -1}, {View: -1}, {Block: -1}, {Signers: -1}} {
			for _, n := range somePeers() {
				holdQc(t, tree, n, q, false)
			}
		}
	}
	whole := impl.Qc{Phase: impl.PhOne, View: 1, Block: 1, Signers: 127}
	holdQc(t, voteTree(), 7, whole, true)
	for i := range 4 {
		q := whole
		*[]*int{&q.Phase, &q.View, &q.Block, &q.Signers}[i] = 0
		holdQc(t, voteTree(), 7, q, false)
	}
}

func TestQcRightSigners(t *testing.T) {
	tree := voteTree()
	for n := 1; n <= impl.MaxPeers; n++ {
		enough, fewer, tooHigh := 0, 0, 0
		for _, signers := range someSigners() {
			q := impl.Qc{Phase: impl.PhTwo, View: 1, Block: 1, Signers: signers}
			want := signers >= 0 && signers < 1<<n && plainCount(signers) >= plainQuorum(n)
			holdQc(t, tree, n, q, want)
			switch {
			case want && plainCount(signers) == plainQuorum(n):
				enough++
			case signers >= 0 && signers < 1<<n && plainCount(signers) == plainQuorum(n)-1:
				fewer++
			case signers >= 1<<n && plainCount(signers) >= plainQuorum(n):
				tooHigh++
			}
		}
		if enough == 0 || fewer == 0 || tooHigh == 0 {
			t.Errorf("of %d, %d sets are just enough, %d one fewer, %d have a bit that nobody has", n, enough, fewer, tooHigh)
		}
	}
	for _, c := range []struct {
		n, signers int
		want       bool
	}{
		{4, 7, true}, {4, 14, true}, {4, 15, true}, {4, 3, false}, {4, 23, false}, {4, 31, false}, {4, 28, false}, {4, 112, false}, {4, 16 + 7, false}, {4, -1, false}, {4, -16 + 7, false},
		{4, math.MinInt + 15, false}, {4, 1<<62 | 15, false}, {1, 1, true}, {1, 0, false}, {1, 2, false}, {1, 3, false}, {3, 7, true}, {3, 6, false}, {3, 15, false},
		{6, 31, true}, {6, 63, true}, {6, 15, false}, {6, 127, false}, {7, 31, true}, {7, 124, true}, {7, 127, true}, {7, 15, false}, {7, 128 + 127, false}, {7, 128 + 31, false}, {7, -1, false},
	} {
		holdQc(t, tree, c.n, impl.Qc{Phase: impl.PhChain, View: impl.MaxView, Block: 4, Signers: c.signers}, c.want)
	}
}

func TestQcRightPeers(t *testing.T) {
	tree := voteTree()
	for _, n := range somePeers() {
		for _, signers := range someSigners() {
			q := impl.Qc{Phase: impl.PhTwo, View: 1, Block: 1, Signers: signers}
			holdQc(t, tree, n, q, plainQcRight(tree, n, q))
			if n < 1 || n > impl.MaxPeers {
				holdQc(t, tree, n, q, false)
			}
		}
	}
}

func TestQcRightParts(t *testing.T) {
	tree := voteTree()
	for _, phase := range somePhases() {
		holdQc(t, tree, 4, impl.Qc{Phase: phase, View: 1, Block: 1, Signers: 7}, phase >= 1 && phase <= 4)
	}
	for _, view := range []int{math.MinInt, -1, 0, 1, 2, 3, impl.MaxView - 1, impl.MaxView, impl.MaxView + 1, math.MaxInt} {
		for _, block := range askedPlaces(tree) {
			there := view == 1 && block == 1 || view == 2 && (block == 2 || block == 3) || view == impl.MaxView && block == 4
			holdQc(t, tree, 4, impl.Qc{Phase: impl.PhOne, View: view, Block: block, Signers: 7}, there)
		}
	}
}

func TestQcRightByTheWords(t *testing.T) {
	right := 0
	for _, tree := range append(allTrees(), voteTree()) {
		for _, block := range askedPlaces(tree) {
			view := 1
			if block >= 0 && block < len(tree) {
				view = tree[block].View
			}
			for i, signers := range []int{0, 1, 3, 7, 14, 15, 23, 31, 127, 255, -1} {
				for _, q := range []impl.Qc{{Phase: 1 + i%4, View: view, Block: block, Signers: signers}, {Phase: i, View: view + i%2, Block: block, Signers: signers}} {
					for _, n := range []int{0, 1, 3, 4, 7, 8} {
						want := plainQcRight(tree, n, q)
						holdQc(t, tree, n, q, want)
						if want {
							right++
						}
					}
				}
			}
		}
	}
	if right < 1000 {
		t.Errorf("only %d are right", right)
	}
}

func TestQcOf(t *testing.T) {
	asked := impl.Qc{Phase: impl.PhTwo, View: 5, Block: 3}
	for n := 1; n <= impl.MaxPeers; n++ {
		for signers := range 1 << impl.MaxPeers {
			want, enough := asked, plainCount(signers) >= plainQuorum(n)
			want.Signers = signers
			if !enough {
				want = impl.Qc{}
			}
			votes := votesOf(asked.Phase, asked.View, asked.Block, signers)
			holdQcOf(t, votes, asked, n, want, enough)
			// A vote that comes twice counts once, and one for another block counts nothing.
			holdQcOf(t, append(votes, votes...), asked, n, want, enough)
			other := votesOf(asked.Phase, asked.View, asked.Block+1, 127)
			holdQcOf(t, slices.Concat(other, votes, other), asked, n, want, enough)
		}
	}
	// The same one ten times is one.
	same := slices.Repeat(votesOf(2, 5, 3, 4), 10)
	holdQcOf(t, same, asked, 4, impl.Qc{}, false)
	// Those that nobody has are not counted.
	holdQcOf(t, votesOf(2, 5, 3, 3|1<<7|1<<8|1<<40), asked, 4, impl.Qc{}, false)
	holdQcOf(t, votesOf(2, 5, 3, 7|1<<7|1<<8|1<<40), asked, 4, impl.Qc{Phase: 2, View: 5, Block: 3, Signers: 7}, true)
}

// Of no votes at all there is nothing, but where nobody is asked for.
func TestQcOfWithoutVotes(t *testing.T) {
	asked := impl.Qc{Phase: impl.PhTwo, View: 5, Block: 3}
	for _, votes := range [][]impl.Vote{nil, {}, votesOf(1, 5, 3, 127), votesOf(2, 4, 3, 127), votesOf(2, 5, 2, 127)} {
		for _, n := range somePeers() {
			if n >= 1 {
				holdQcOf(t, votes, asked, n, impl.Qc{}, false)
			} else {
				holdQcOf(t, votes, asked, n, asked, true)
			}
		}
	}
}

func TestQcOfPeers(t *testing.T) {
	all := impl.Qc{Phase: impl.PhOne, View: 1, Block: 1, Signers: 127}
	for _, c := range []struct {
		n      int
		enough bool
	}{
		{math.MinInt, true}, {-1, true}, {0, true}, {1, true}, {7, true}, {8, true}, {9, true}, {10, true}, {11, false}, {12, false}, {1000, false}, {math.MaxInt, false},
	} {
		want := all
		if !c.enough {
			want = impl.Qc{}
		}
		holdQcOf(t, votesOf(1, 1, 1, 127), all, c.n, want, c.enough)
	}
}

func TestQcOfByTheWords(t *testing.T) {
	for _, votes := range someVoteLists() {
		for _, q := range askedVotes() {
			for _, n := range somePeers() {
				want, enough := plainQcOf(votes, q.Phase, q.View, q.Block, n)
				holdQcOf(t, votes, q, n, want, enough)
			}
		}
	}
}

func TestHigherQc(t *testing.T) {
	views := []int{math.MinInt, -1, 0, 1, 2, 3, impl.MaxView, impl.MaxView + 1, math.MaxInt}
	for _, one := range views {
		for _, two := range views {
			// All but the View speaks for the other one.
			for _, turn := range []int{1, -1} {
				a, b := impl.Qc{Phase: 2 - turn, View: one, Block: 5 - turn, Signers: 9 - turn}, impl.Qc{Phase: 2 + turn, View: two, Block: 5 + turn, Signers: 9 + turn}
				want := a
				if two > one {
					want = b
				}
				if got := impl.HigherQc(a, b); got != want {
					t.Errorf("HigherQc(%+v, %+v) = %+v", a, b, got)
				}
			}
		}
	}
	if q := (impl.Qc{Phase: 1, View: 1, Block: 1, Signers: 7}); impl.HigherQc(impl.Qc{}, q) != q || impl.HigherQc(q, impl.Qc{}) != q || impl.HigherQc(q, q) != q {
		t.Error("nothing is higher than something")
	}
}

func TestProven(t *testing.T) {
	q := impl.Qc{Phase: impl.PhOne, View: 1, Block: 1, Signers: 13}
	votes := votesOf(1, 1, 1, 13)
	for _, c := range []struct {
		votes []impl.Vote
		liars int
		want  bool
	}{
		{votes, 0, true}, {votes, 2, true}, {votes, 13, true}, {votes[:2], 0, false}, {votes[:2], 8, true}, {votes[:2], 4, false}, {votes[:2], 7, false}, {votes[1:], 1, true}, {votes[1:], 0, false},
		{votes[1:], 126, false}, {nil, 13, true}, {nil, 15, true}, {nil, 12, false}, {nil, 5, false}, {nil, 0, false}, {[]impl.Vote{}, 13, true}, {[]impl.Vote{}, 9, false},
		{append(votes, votes...), 0, true}, {append(votesOf(1, 1, 1, 127), votesOf(1, 1, 2, 127)...), 0, true},
		{votesOf(2, 1, 1, 127), 0, false}, {votesOf(1, 2, 1, 127), 0, false}, {votesOf(1, 1, 2, 127), 0, false}, {votesOf(2, 1, 1, 127), 13, true},
		// Each signer needs a vote of just this Phase, View and Block.
		{slices.Concat(votesOf(2, 1, 1, 1), votesOf(1, 1, 1, 12)), 0, false}, {slices.Concat(votesOf(1, 2, 1, 4), votesOf(1, 1, 1, 9)), 0, false}, {slices.Concat(votesOf(1, 1, 2, 8), votesOf(1, 1, 1, 5)), 0, false},
		// Liars who did not sign, bits that nobody has, and numbers below 0.
		{votes, math.MaxInt, true}, {nil, math.MaxInt, true}, {nil, -1, true}, {nil, math.MinInt, false}, {votes, math.MinInt, true}, {nil, -13, false}, {nil, -128, false}, {nil, -128 + 13, true},
		{nil, 1<<40 | 13, true}, {nil, 1 << 40, false}, {votes[:2], math.MinInt | 8, true}, {votes[:2], -8, true}, {votes[:2], -16, false},
	} {
		holdProven(t, c.votes, q, c.liars, c.want)
	}
}

func TestProvenOfViewZero(t *testing.T) {
	for _, votes := range someVoteLists()[:20] {
		for _, signers := range []int{0, 1, 7, 127, 128, -1, math.MinInt, math.MaxInt} {
			for _, liars := range []int{0, 1, -1, math.MaxInt} {
				holdProven(t, votes, impl.Qc{Signers: signers}, liars, true)
				holdProven(t, votes, impl.Qc{Phase: impl.PhOne, Block: 1, Signers: signers}, liars, true)
				holdProven(t, votes, impl.Qc{Phase: -1, Block: math.MaxInt, Signers: signers}, liars, true)
			}
		}
	}
	// Another View is none, even one below 0.
	for _, view := range []int{math.MinInt, -1, 1, impl.MaxView, impl.MaxView + 1, math.MaxInt} {
		holdProven(t, nil, impl.Qc{View: view, Signers: 1}, 0, false)
		holdProven(t, votesOf(0, view, 0, 1), impl.Qc{View: view, Signers: 1}, 0, true)
		holdProven(t, nil, impl.Qc{View: view}, 0, true)
	}
}

// A signer that nobody has gave no vote: it must be one of liars.
func TestProvenOfSignersThatNobodyHas(t *testing.T) {
	votes := votesOf(1, 1, 1, 127)
	for bit := impl.MaxPeers; bit < 63; bit++ {
		for _, below := range []int{0, 7, 127} {
			q := impl.Qc{Phase: 1, View: 1, Block: 1, Signers: 1<<bit | below}
			holdProven(t, votes, q, 0, false)
			holdProven(t, votes, q, 127, false)
			holdProven(t, votes, q, 1<<bit, true)
			holdProven(t, nil, q, 1<<bit, below == 0)
			holdProven(t, nil, q, 1<<bit|127, true)
		}
	}
	for _, signers := range []int{-1, -2, -128, math.MinInt, math.MinInt + 7} {
		q := impl.Qc{Phase: 1, View: 1, Block: 1, Signers: signers}
		holdProven(t, votes, q, 0, false)
		holdProven(t, votes, q, 127, false)
		holdProven(t, votes, q, math.MaxInt, false)
		holdProven(t, nil, q, signers, true)
		holdProven(t, nil, q, -1, true)
	}
}

func TestProvenByTheWords(t *testing.T) {
	proven, not := 0, 0
	for _, votes := range someVoteLists() {
		for _, q := range askedVotes() {
			for _, signers := range []int{0, 1, 2, 6, 9, 13, 64, 126, 127, 128, 129, 255, 1 << 32, 1 << 62, math.MaxInt, -1, -128, math.MinInt} {
				for _, liars := range []int{0, 1, 4, 9, 118, 127, 128, 1 << 32, math.MaxInt, -1, -2, -128, math.MinInt} {
					q.Signers = signers
					want := plainProven(votes, q, liars)
					holdProven(t, votes, q, liars, want)
					if want {
						proven++
					} else {
						not++
					}
				}
			}
		}
	}
	if proven < 1000 || not < 1000 {
		t.Errorf("only %d are Proven, and %d not", proven, not)
	}
}

// Promise 7: of any two that are enough more than can lie are in both.
func TestAnyTwoThatAreEnoughShareAnHonestOne(t *testing.T) {
	for n := 1; n <= impl.MaxPeers; n++ {
		var enough []int
		for signers := range 1 << n {
			if impl.CountOf(signers) >= impl.Quorum(n) {
				enough = append(enough, signers)
			}
		}
		least := n
		for _, a := range enough {
			for _, b := range enough {
				common := impl.CountOf(a & b)
				if common <= impl.Faults(n) {
					t.Fatalf("of %d, %b and %b are enough, and have %d in common, of whom %d may lie", n, a, b, common, impl.Faults(n))
				}
				least = min(least, common)
			}
		}
		if len(enough) == 0 || least != 2*impl.Quorum(n)-n {
			t.Errorf("of %d, %d sets are enough, and two have %d in common at least", n, len(enough), least)
		}
	}
}

// Those who don't lie are enough without the liars, whoever these are.
func TestAllButTheLiarsAreEnough(t *testing.T) {
	tree := voteTree()
	for n := 1; n <= impl.MaxPeers; n++ {
		if impl.Quorum(n)+impl.Faults(n) != n {
			t.Errorf("Quorum(%d) and Faults together are %d", n, impl.Quorum(n)+impl.Faults(n))
		}
		all := 1<<n - 1
		for liars := range 1 << n {
			honest := all &^ liars
			want := impl.CountOf(liars) <= impl.Faults(n)
			holdQc(t, tree, n, impl.Qc{Phase: impl.PhOne, View: 1, Block: 1, Signers: honest}, want)
			if _, ok := impl.QcOf(votesOf(1, 1, 1, honest), 1, 1, 1, n); ok != want {
				t.Errorf("of %d, all but the liars %b are enough: %v", n, liars, ok)
			}
			// Liars alone never are.
			if _, ok := impl.QcOf(votesOf(1, 1, 1, liars), 1, 1, 1, n); ok && want {
				t.Errorf("of %d, the liars %b are enough", n, liars)
			}
		}
	}
}

// What QcOf tells is right and proven, with one more signer too; without one vote that is needed it is not.
func TestWhatQcOfTellsIsRightAndProven(t *testing.T) {
	tree := voteTree()
	for block := 1; block < len(tree); block++ {
		for phase := impl.PhOne; phase <= impl.PhChain; phase++ {
			for n := 1; n <= impl.MaxPeers; n++ {
				for signers := range 1 << n {
					holdTold(t, tree, n, phase, block, signers)
				}
			}
		}
	}
}

func holdTold(t *testing.T, tree []impl.Block, n int, phase int, block int, signers int) {
	t.Helper()
	view := tree[block].View
	votes := votesOf(phase, view, block, signers)
	for _, v := range votes {
		holdVote(t, tree, n, v, true)
	}
	q, ok := impl.QcOf(votes, phase, view, block, n)
	if ok != (len(votes) >= impl.Quorum(n)) {
		t.Fatalf("QcOf(%v, %d, %d, %d, %d) = %+v, %v", votes, phase, view, block, n, q, ok)
	}
	if !ok {
		return
	}
	holdQc(t, tree, n, q, true)
	holdQc(t, tree[:block], n, q, false)
	holdProven(t, votes, q, 0, true)
	for by := range n {
		more := q
		more.Signers |= 1 << by
		holdQc(t, tree, n, more, true)
		holdProven(t, votes, more, 0, more == q)
		holdProven(t, votes, more, 1<<by, true)
	}
	for i, v := range votes {
		rest := slices.Delete(slices.Clone(votes), i, i+1)
		holdProven(t, rest, q, 0, false)
		holdProven(t, rest, q, 127&^(1<<v.By), false)
		holdProven(t, rest, q, 1<<v.By, true)
	}
}

// roomyVotes is a copy of votes with spare room of known contents behind it.
func roomyVotes(votes []impl.Vote) (whole, front []impl.Vote) {
	whole = slices.Clone(votes)
	for range 3 {
		whole = append(whole, impl.Vote{Phase: impl.PhOne, View: 1, Block: 1, By: 6})
	}
	return whole, whole[:len(votes)]
}

func TestVotesArgumentsStay(t *testing.T) {
	for _, votes := range someVoteLists() {
		whole, front := roomyVotes(votes)
		was := slices.Clone(whole)
		for _, q := range askedVotes() {
			signers := impl.SignersOf(front, q.Phase, q.View, q.Block)
			// What stands in the spare room is not looked at.
			if signers != plainSigners(votes, q.Phase, q.View, q.Block) {
				t.Fatalf("SignersOf looks behind %v", votes)
			}
			impl.QcOf(front, q.Phase, q.View, q.Block, 4)
			impl.Proven(front, impl.Qc{Phase: q.Phase, View: q.View, Block: q.Block, Signers: 127}, 1)
		}
		if !slices.Equal(whole, was) {
			t.Fatalf("the votes are changed: %v, were %v", whole, was)
		}
	}
	for _, tree := range append(wrongTrees(), voteTree(), bushWith(9), branches()) {
		whole, front := roomyTree(tree)
		was := wholeTree(whole)
		for _, block := range askedPlaces(tree) {
			for _, view := range []int{-7, 1, 2} {
				impl.VoteOk(front, 4, impl.Vote{Phase: impl.PhOne, View: view, Block: block})
				impl.QcRight(front, 4, impl.Qc{Phase: impl.PhOne, View: view, Block: block, Signers: 7})
			}
		}
		if !sameTree(wholeTree(whole), was) {
			t.Fatalf("the tree is changed: %v, was %v", whole, was)
		}
	}
}

// A block that stands in the spare room of a tree is none of it.
func TestVotesLookAtTheTreeAlone(t *testing.T) {
	tree := voteTree()
	for size := range tree {
		for block := 1; block < len(tree); block++ {
			holdVote(t, tree[:size], 4, impl.Vote{Phase: impl.PhOne, View: tree[block].View, Block: block}, block < size)
			holdQc(t, tree[:size], 4, impl.Qc{Phase: impl.PhOne, View: tree[block].View, Block: block, Signers: 7}, block < size)
		}
	}
}

// wholeKinds are the kinds of whole numbers whose bits can be signers.
func wholeKinds() []string {
	return []string{"int", "int8", "int16", "int32", "int64", "uint", "uint8", "uint16", "uint32", "uint64", "byte"}
}

// The chapter 'Ways': signers are bits of a named type with methods. The methods work on bits, and the chapter's functions call them.
func TestSignersAreBitsOfANamedType(t *testing.T) {
	file, err := parser.ParseFile(token.NewFileSet(), "../impl/l07_vote.go", nil, 0)
	if err != nil {
		t.Fatal(err)
	}
	named, methods := map[string]bool{}, map[string]bool{}
	ast.Inspect(file, func(n ast.Node) bool {
		if s, ok := n.(*ast.TypeSpec); ok {
			kind, plain := s.Type.(*ast.Ident)
			named[s.Name.Name] = plain && !s.Assign.IsValid() && slices.Contains(wholeKinds(), kind.Name)
		}
		return true
	})
	for _, d := range file.Decls {
		if f, ok := d.(*ast.FuncDecl); ok && f.Recv != nil && worksOnBits(f) {
			if of, ok := f.Recv.List[0].Type.(*ast.Ident); ok && named[of.Name] {
				methods[f.Name.Name] = true
			}
		}
	}
	if len(methods) == 0 {
		t.Fatal("no method of a named type of whole numbers works on bits")
	}
	for _, d := range file.Decls {
		f, ok := d.(*ast.FuncDecl)
		if ok && slices.Contains([]string{"CountOf", "QcRight", "QcOf", "Proven"}, f.Name.Name) && !callsOneOf(f, methods) {
			t.Errorf("%s calls no method of the signers", f.Name.Name)
		}
	}
}

func worksOnBits(f *ast.FuncDecl) bool {
	found := false
	ast.Inspect(f, func(n ast.Node) bool {
		if b, ok := n.(*ast.BinaryExpr); ok && slices.Contains([]token.Token{token.AND, token.OR, token.AND_NOT, token.SHL, token.SHR}, b.Op) {
			found = true
		}
		return true
	})
	return found
}

func callsOneOf(f *ast.FuncDecl, names map[string]bool) bool {
	found := false
	ast.Inspect(f, func(n ast.Node) bool {
		if call, ok := n.(*ast.CallExpr); ok {
			if s, ok := call.Fun.(*ast.SelectorExpr); ok && names[s.Sel.Name] {
				found = true
			}
		}
		return true
	})
	return found
}
