package tests

import (
	"go/ast"
	"go/parser"
	"go/token"
	"math"
	"slices"
	"strings"
	"testing"
	"unsafe"

	"loop.example/g00330/impl"
)

// accountTree has blocks whose commands set, add and take, and blocks that have none; some commands are refused:
// 0 - 1 - 2 - 3 - 4 - 5, 2 - 6 - 7, 0 - 8 - 9
func accountTree() []impl.Block {
	tree := []impl.Block{first()}
	for _, b := range []struct {
		parent int
		cmds   []impl.Cmd
	}{
		{0, []impl.Cmd{set("a", 5), set("b", 1)}},
		{1, []impl.Cmd{add("a", 2), take("b", 1), take("a", 100), set("c", 3)}},
		{2, nil},
		{3, []impl.Cmd{set("a", 0), add("q", 1), set("d", 4)}},
		{4, []impl.Cmd{take("d", 4), set("b", 9), take("b", 2)}},
		{2, []impl.Cmd{set("a", 77), set("z", 8)}},
		{6, []impl.Cmd{add("z", 1), add("a", impl.MaxNumber), take("y", 0), add("c", 1)}},
		{0, []impl.Cmd{set("b", 1000)}},
		{8, []impl.Cmd{add("b", impl.MaxNumber), add("b", 1), set("e", 0)}},
	} {
		tree = append(tree, on(tree, b.parent, tree[b.parent].View+1, b.cmds...))
	}
	return tree
}

// fullTree is a row of blocks that set more accounts than there may be: those of the last ones are refused, but for what is there.
func fullTree() []impl.Block {
	tree := []impl.Block{first()}
	for i := range 6 {
		at := byte('x' - 4*i)
		keys := []string{string([]byte{at}), string([]byte{at - 1}), string([]byte{at - 2}), "m"}
		tree = append(tree, on(tree, i, i+1, set(keys[0], i), set(keys[1], 7), set(keys[2], 9), add(keys[3], i)))
	}
	return append(tree, on(tree, 6, 7, set("x", 100), take("w", 3), set("a", 1)), on(tree, 3, 9, set("b", 1), set("c", 2), set("d", 3), set("e", 4)))
}

// wrongCmdsTree has blocks whose commands are not right, so that it is not TreeOk, among some that are.
func wrongCmdsTree() []impl.Block {
	tree := []impl.Block{first()}
	for i := range 8 {
		wrong := wrongCmds()[i*31%400:][:5]
		tree = append(tree, on(tree, max(i-1, 0), i+1, append([]impl.Cmd{set("b", i), add("b", 2)}, append(slices.Clone(wrong), set("c", i))...)...))
	}
	return tree
}

func cmdTrees() [][]impl.Block {
	return [][]impl.Block{accountTree(), fullTree(), wrongCmdsTree(), letterTree(4), branches(), bushWith(14), rowWith(9)}
}

// plainSafeBlock, plainMayVote, plainVoted, plainEntered, plainThrough and plainTooEarly are the chapter's own words, sentence by sentence.
func plainSafeBlock(tree []impl.Block, lock impl.Qc, k int) bool {
	if plainExtends(tree, k, lock.Block) {
		return true
	}
	return k >= 0 && k < len(tree) && tree[k].Just.View > lock.View
}

func plainMayVote(p impl.Peer, phase int, view int) bool {
	if p.Last.View == view {
		return p.Last.Phase < phase
	}
	return p.Last.View < view
}

func plainVoted(p impl.Peer, phase int, view int, block int) (impl.Peer, impl.Vote) {
	v := impl.Vote{Phase: phase, View: view, Block: block, By: p.Id}
	p.Last = v
	return p, v
}

func plainEntered(p impl.Peer, view int) impl.Peer {
	if view <= p.View || view > 900 {
		return p
	}
	p.View, p.Votes, p.News = view, nil, nil
	return p
}

func plainLast(row []int) int {
	if len(row) > 0 {
		return row[len(row)-1]
	}
	return 0
}

func plainTakenBack(p impl.Peer) impl.Peer {
	for i := len(p.Undos) - 1; i >= 0; i-- {
		p.Cells = plainUndone(p.Cells, p.Undos[i])
	}
	p.Early, p.Undos = nil, nil
	return p
}

func plainThrough(tree []impl.Block, p impl.Peer, k int) impl.Peer {
	last := plainLast(p.Row)
	if !plainExtends(tree, k, last) {
		return p
	}
	p = plainTakenBack(p)
	p.Row = slices.Concat(p.Row, plainRowAfter(tree, k, last))
	for _, at := range plainRowAfter(tree, k, last) {
		for _, c := range tree[at].Cmds {
			p.Cells, _ = plainDone(p.Cells, c)
		}
	}
	return p
}

func plainTooEarly(tree []impl.Block, p impl.Peer, k int) impl.Peer {
	p = plainTakenBack(p)
	p.Early = plainRowAfter(tree, k, plainLast(p.Row))
	for _, at := range p.Early {
		for _, c := range tree[at].Cmds {
			p.Undos = append(p.Undos, plainUndoOf(p.Cells, c.Key))
			p.Cells, _ = plainDone(p.Cells, c)
		}
	}
	return p
}

func holdSafe(t *testing.T, tree []impl.Block, lock impl.Qc, k int, want bool) {
	t.Helper()
	if got := impl.SafeBlock(tree, lock, k); got != want {
		t.Fatalf("SafeBlock(%s, %+v, %d) = %v", brief(tree), lock, k, got)
	}
}

func holdMay(t *testing.T, p impl.Peer, phase int, view int, want bool) {
	t.Helper()
	if got := impl.MayVote(p, phase, view); got != want {
		t.Fatalf("MayVote(%s, %d, %d) = %v", brief(p), phase, view, got)
	}
}

func holdVoted(t *testing.T, p impl.Peer, phase int, view int, block int) impl.Peer {
	t.Helper()
	want, vote := plainVoted(p, phase, view, block)
	got, v := impl.Voted(p, phase, view, block)
	if !samePeer(got, want) || v != vote {
		t.Fatalf("Voted(%s, %d, %d, %d) = %s, %v, want %s, %v", brief(p), phase, view, block, brief(got), v, brief(want), vote)
	}
	return got
}

func holdEntered(t *testing.T, p impl.Peer, view int, want impl.Peer) {
	t.Helper()
	if got := impl.Entered(p, view); !samePeer(got, want) {
		t.Fatalf("Entered(%s, %d) = %s, want %s", brief(p), view, brief(got), brief(want))
	}
}

func holdThrough(t *testing.T, tree []impl.Block, p impl.Peer, k int, want impl.Peer) {
	t.Helper()
	if got := impl.Through(tree, p, k); !samePeer(got, want) {
		t.Fatalf("Through(%s, %s, %d) = %s, want %s", brief(tree), brief(p), k, brief(got), brief(want))
	}
}

func holdTooEarly(t *testing.T, tree []impl.Block, p impl.Peer, k int, want impl.Peer) {
	t.Helper()
	if got := impl.TooEarly(tree, p, k); !samePeer(got, want) {
		t.Fatalf("TooEarly(%s, %s, %d) = %s, want %s", brief(tree), brief(p), k, brief(got), brief(want))
	}
}

// behind is a replica with something in all of it, whose Row leads to that block.
func behind(tree []impl.Block, k int) impl.Peer {
	p := withTheRest(impl.Peer{Id: 2, View: 6, Row: plainRowTo(tree, k)})
	p.High, p.Lock = impl.Qc{Phase: 1, View: 2, Block: 3, Signers: 7}, impl.Qc{Phase: 2, View: 1, Block: 1, Signers: 14}
	p.Last = impl.Vote{Phase: 2, View: 5, Block: 4, By: 2}
	p.Cells, p.Early, p.Undos = plainRowCells(tree, p.Row), nil, nil
	return p
}

func TestSafeBlock(t *testing.T) {
	tree := branches() // 0 - 1 - 2 - 3 - 8, 0 - 4 - 5, 2 - 6 - 7, 3 - 9
	for _, c := range []struct {
		what  string
		k     int
		block int
		view  int
		want  bool
	}{
		{"the lock's Block", 3, 3, 3, true}, {"the lock's Block, whose Just is far below", 3, 3, 900, true}, {"the first one", 0, 0, 0, true}, {"the first one, far below", 0, 0, 900, true},
		{"on it", 8, 3, 3, true}, {"on it, its Just below", 8, 3, 4, true}, {"several above it", 8, 1, 5, true}, {"above the first one", 5, 0, 9, true},
		{"on it, its Just above", 8, 3, 2, true}, {"on it, its Just at the lock", 2, 1, 1, true},
		{"below it, its Just below", 2, 3, 3, false}, {"below it, its Just at the lock", 2, 3, 1, false}, {"below it, its Just above", 2, 3, 0, true},
		{"it clashes, its Just below", 7, 3, 4, false}, {"it clashes, its Just at the lock", 7, 3, 3, false}, {"it clashes, its Just above", 7, 3, 2, true}, {"it clashes, its Just far above", 7, 3, -900, true},
		{"one beside it", 9, 8, 3, false}, {"one beside it, its Just above", 9, 8, 2, true}, {"the first one below a lock", 0, 3, 0, false}, {"the first one above a lock below 0", 0, 3, -1, true},
		{"on nothing there is", 8, 10, 3, false}, {"on nothing there is, its Just above", 8, 10, 2, true}, {"on a Block below 0", 8, -1, 3, false}, {"on a Block below 0, its Just above", 8, -1, 2, true},
	} {
		lock := impl.Qc{Phase: impl.PhTwo, View: c.view, Block: c.block, Signers: 7}
		if got := impl.SafeBlock(tree, lock, c.k); got != c.want {
			t.Errorf("%s: SafeBlock of block %d, of which the Just's View is %d, for %+v = %v", c.what, c.k, tree[c.k].Just.View, lock, got)
		}
	}
	// A lock of nothing: all blocks stand on the first one.
	for k := range tree {
		holdSafe(t, tree, impl.Qc{}, k, true)
	}
}

func TestSafeBlockOfPlacesThatAreNone(t *testing.T) {
	for _, tree := range [][]impl.Block{nil, {}, {first()}, rowWith(5), branches()} {
		for _, k := range []int{math.MinInt, -2, -1, len(tree), len(tree) + 1, math.MaxInt} {
			for _, view := range fieldNumbers() {
				for _, block := range []int{math.MinInt, -1, 0, 1, len(tree), k, math.MaxInt} {
					holdSafe(t, tree, impl.Qc{View: view, Block: block}, k, false)
				}
			}
		}
	}
	// The last one of a tree is there, and in its spare room there is none.
	tree := rowWith(5)
	for size := range len(tree) {
		holdSafe(t, tree[:size], impl.Qc{}, size, false)
		holdSafe(t, tree[:size+1], impl.Qc{}, size, true)
	}
}

// Of the lock only its Block and its View are asked, of the block only what it stands on, and its Just's View.
func TestSafeBlockAsksNoMore(t *testing.T) {
	tree := branches()
	for _, num := range fieldNumbers() {
		for k := range tree {
			lock := impl.Qc{Phase: num, View: 2, Block: 3, Signers: num}
			holdSafe(t, tree, lock, k, plainSafeBlock(tree, impl.Qc{View: 2, Block: 3}, k))
			other := copyTree(tree)
			other[k].View, other[k].Cmds, other[k].Just = num, nil, impl.Qc{Phase: num, View: tree[k].Just.View, Block: num, Signers: num}
			holdSafe(t, other, lock, k, plainSafeBlock(tree, lock, k))
		}
	}
}

func TestSafeBlockByTheWords(t *testing.T) {
	safe, wrong := 0, 0
	trees := slices.DeleteFunc(append(allTrees(), cmdTrees()...), func(tree []impl.Block) bool { return len(tree) > 25 })
	for _, b := range wildBlocks()[:80] {
		trees = append(trees, []impl.Block{first(), b, {Parent: 1, Just: b.Just}})
	}
	for _, tree := range trees {
		for _, k := range askedPlaces(tree) {
			views := []int{math.MinInt, -1, 0, 1, 2, impl.MaxView, math.MaxInt}
			if k >= 0 && k < len(tree) {
				just := tree[k].Just.View
				views = append(views, just-1, just, just+1)
			}
			for _, block := range []int{-1, 0, 1, k, k - 1, k / 2, len(tree) - 1, len(tree)} {
				for _, view := range views {
					want := plainSafeBlock(tree, impl.Qc{View: view, Block: block}, k)
					holdSafe(t, tree, impl.Qc{View: view, Block: block}, k, want)
					if want {
						safe++
					} else {
						wrong++
					}
				}
			}
		}
	}
	if safe < 1000 || wrong < 1000 {
		t.Errorf("only %d are safe, and %d not", safe, wrong)
	}
}

func TestMayVote(t *testing.T) {
	last := func(phase int, view int) impl.Peer {
		return impl.Peer{Id: 1, View: 9, Last: impl.Vote{Phase: phase, View: view, Block: 3, By: 1}}
	}
	for _, c := range []struct {
		p           impl.Peer
		phase, view int
		want        bool
	}{
		// A View below, at and above, with a Phase below, at and above.
		{last(2, 5), 1, 4, false}, {last(2, 5), 2, 4, false}, {last(2, 5), 3, 4, false}, {last(2, 5), 4, 4, false},
		{last(2, 5), 1, 5, false}, {last(2, 5), 2, 5, false}, {last(2, 5), 3, 5, true}, {last(2, 5), 4, 5, true},
		{last(2, 5), 1, 6, true}, {last(2, 5), 2, 6, true}, {last(2, 5), 3, 6, true}, {last(2, 5), 1, 900, true},
		// Phases that are passed over.
		{last(1, 5), 3, 5, true}, {last(1, 5), 4, 5, true}, {last(3, 5), 2, 5, false}, {last(4, 5), 3, 5, false}, {last(4, 5), 4, 5, false}, {last(4, 5), 1, 6, true},
		// A Last of nothing.
		{impl.PeerNew(1), 1, 1, true}, {impl.PeerNew(1), 4, 1, true}, {impl.PeerNew(1), 1, 900, true}, {impl.PeerNew(1), 0, 1, true}, {impl.PeerNew(1), -1, 1, true},
		{impl.PeerNew(1), 0, 0, false}, {impl.PeerNew(1), 1, 0, true}, {impl.PeerNew(1), -1, 0, false}, {impl.PeerNew(1), 4, -1, false}, {impl.Peer{}, 1, 1, true},
		// At MaxView and above, and below 0.
		{last(1, 899), 1, 900, true}, {last(1, 900), 1, 900, false}, {last(1, 900), 2, 900, true}, {last(1, 900), 1, 901, true}, {last(3, 901), 2, 901, false}, {last(3, 901), 4, 901, true},
		{last(1, -3), 1, -3, false}, {last(1, -3), 2, -3, true}, {last(1, -3), 1, -2, true}, {last(1, -3), 4, -4, false}, {last(-2, 5), -1, 5, true}, {last(-2, 5), -2, 5, false},
		{last(1, math.MaxInt), 1, math.MaxInt, false}, {last(1, math.MaxInt), 2, math.MinInt, false}, {last(1, math.MinInt), 1, math.MaxInt, true}, {last(math.MinInt, 5), math.MaxInt, 5, true}, {last(math.MaxInt, 5), math.MinInt, 5, false},
	} {
		holdMay(t, c.p, c.phase, c.view, c.want)
	}
}

// Of the replica Last's View and Phase alone are asked: not its own View, nor By and Block.
func TestMayVoteAsksNoMore(t *testing.T) {
	for _, a := range fieldNumbers() {
		for _, b := range fieldNumbers() {
			for _, phase := range somePhases() {
				for _, lastPhase := range somePhases() {
					p := impl.Peer{Last: impl.Vote{Phase: lastPhase, View: a}}
					holdMay(t, p, phase, b, plainMayVote(p, phase, b))
				}
			}
			p := withTheRest(impl.Peer{Id: a, View: b, Last: impl.Vote{Phase: 2, View: 5, Block: a, By: b}, High: impl.Qc{Phase: 4, View: a}, Lock: impl.Qc{Phase: 4, View: b}})
			p.Shown = a
			holdMay(t, p, 2, 5, false)
			holdMay(t, p, 3, 5, true)
			holdMay(t, p, 3, 4, false)
			holdMay(t, p, 1, 6, true)
		}
	}
}

func TestVoted(t *testing.T) {
	p := behind(branches(), 3)
	got, v := impl.Voted(p, impl.PhThree, 7, 4)
	if v != (impl.Vote{Phase: impl.PhThree, View: 7, Block: 4, By: 2}) || got.Last != v || got.View != 6 {
		t.Errorf("Voted = %+v, %+v", got, v)
	}
	// By is Id, whatever View and Last were, and whether it may vote is not asked; all else stays.
	for _, a := range fieldNumbers() {
		for i, b := range fieldNumbers() {
			p.Id, p.View, p.Last = a, b, impl.Vote{Phase: i, View: a, Block: b, By: i}
			holdVoted(t, p, 1+i%4, b, a)
			holdVoted(t, p, a, i, b)
		}
	}
	for _, p := range wildPeers() {
		if len(p.Row) > 200 {
			continue
		}
		for _, num := range []int{math.MinInt, -1, 0, 1, 901, math.MaxInt} {
			holdVoted(t, p, num, num, num)
			holdVoted(t, p, impl.PhChain, 4, num)
		}
	}
}

// Promise 10: a replica that Voted gives none of that Phase and View any more, nor one behind it.
func TestAReplicaVotesOnce(t *testing.T) {
	phases := []int{impl.PhOne, impl.PhTwo, impl.PhThree, impl.PhChain}
	for _, phase := range phases {
		for view := 1; view <= impl.MaxView; view += 31 {
			p := holdVoted(t, behind(accountTree(), 4), phase, view, 3)
			for _, other := range phases {
				holdMay(t, p, other, view, other > phase)
				for _, above := range []int{1, 2, 3, impl.MaxView} {
					holdMay(t, p, other, view+above, true)
					holdMay(t, p, other, view-above, false)
				}
			}
			// Neither a fall nor a View that it enters, nor what goes through, makes it forget.
			tree := accountTree()
			for _, later := range []impl.Peer{impl.Fallen(tree, p), impl.Entered(p, impl.MaxView), impl.Through(tree, p, 5), impl.TooEarly(tree, p, 5), impl.TooEarly(tree, p, 9)} {
				holdMay(t, later, phase, view, false)
				holdMay(t, later, phase, view-1, false)
				holdMay(t, later, phase+1, view, true)
				holdMay(t, later, impl.PhOne, view+1, true)
			}
		}
	}
}

// A replica is asked in a drawn order, falls now and then, and votes whenever it may.
func TestNoReplicaSaysTwoThings(t *testing.T) {
	seed := uint32(5)
	draw := func(below int) int {
		seed = seed*1664525 + 1013904223
		return int(seed>>8) % below
	}
	tree := accountTree()
	refused := 0
	for range 200 {
		p := impl.PeerNew(draw(7))
		var said []impl.Vote
		for range 80 {
			phase, view := 1+draw(4), 1+p.Last.View+draw(5)-2
			if !impl.MayVote(p, phase, view) {
				refused++
				continue
			}
			var v impl.Vote
			p, v = impl.Voted(p, phase, view, 1+draw(9))
			for _, before := range said {
				if before.View > v.View || before.View == v.View && before.Phase >= v.Phase {
					t.Fatalf("%v is given behind %v", v, before)
				}
			}
			said = append(said, v)
			switch draw(6) {
			case 0:
				p = impl.Fallen(tree, p)
			case 1:
				p = impl.Entered(p, view+1)
			case 2:
				p = impl.Through(tree, p, draw(10))
			case 3:
				p = impl.TooEarly(tree, p, draw(10))
			}
		}
		if impl.SaidTwice(said) || len(said) < 10 {
			t.Fatalf("it said %v", said)
		}
	}
	if refused < 1000 {
		t.Errorf("only %d votes are refused", refused)
	}
}

func TestEntered(t *testing.T) {
	p := behind(branches(), 3)
	p.Early, p.Undos = []int{8}, []impl.Undo{had("a", 3), gone("b")}
	if p.View != 6 || len(p.Votes) == 0 || len(p.News) == 0 {
		t.Fatalf("there is nothing to leave: %+v", p)
	}
	silent := p
	silent.Votes, silent.News = nil, nil
	for _, was := range []impl.Peer{p, silent} {
		for _, view := range []int{7, 8, 9, 100, impl.MaxView - 1, impl.MaxView} {
			// High, Lock, Last, Row, Cells, Early, Undos and Shown stay.
			want := silent
			want.View = view
			holdEntered(t, was, view, want)
		}
		for _, view := range []int{math.MinInt, -1, 0, 1, 5, 6, impl.MaxView + 1, impl.MaxView + 2, math.MaxInt} {
			holdEntered(t, was, view, was)
		}
	}
	// One that has its last View stays in it; one above it, too.
	for _, view := range []int{impl.MaxView, impl.MaxView + 1, math.MaxInt} {
		p.View = view
		for _, to := range []int{0, 1, impl.MaxView - 1, impl.MaxView, impl.MaxView + 1, impl.MaxView + 2, math.MaxInt} {
			holdEntered(t, p, to, p)
		}
	}
}

func TestEnteredByTheWords(t *testing.T) {
	entered, stayed := 0, 0
	peers := append(rightPeers(letterTree(4), 4)[:200], slices.DeleteFunc(wildPeers(), func(p impl.Peer) bool { return len(p.Row) > 200 })...)
	for _, p := range peers {
		for _, view := range append(fieldNumbers(), p.View, p.View+1, p.View-1) {
			want := plainEntered(p, view)
			holdEntered(t, p, view, want)
			if want.View != p.View {
				entered++
			} else {
				stayed++
			}
		}
	}
	if entered < 1000 || stayed < 1000 {
		t.Errorf("only %d enter, and %d stay", entered, stayed)
	}
}

func TestThrough(t *testing.T) {
	tree := accountTree() // 0 - 1 - 2 - 3 - 4 - 5, 2 - 6 - 7, 0 - 8 - 9
	for _, c := range []struct {
		last  int
		k     int
		row   []int
		cells []impl.Cell
	}{
		// Behind an empty Row: 0 is its last one.
		{0, 0, nil, nil},
		{0, 1, []int{1}, []impl.Cell{{Key: "a", Num: 5}, {Key: "b", Num: 1}}},
		{0, 2, []int{1, 2}, []impl.Cell{{Key: "a", Num: 7}, {Key: "b"}, {Key: "c", Num: 3}}},
		{0, 8, []int{8}, []impl.Cell{{Key: "b", Num: 1000}}},
		{0, 5, []int{1, 2, 3, 4, 5}, []impl.Cell{{Key: "a"}, {Key: "b", Num: 7}, {Key: "c", Num: 3}, {Key: "d"}}},
		{0, 7, []int{1, 2, 6, 7}, []impl.Cell{{Key: "a", Num: 77}, {Key: "b"}, {Key: "c", Num: 4}, {Key: "z", Num: 9}}},
		// Behind Rows of one block and of several: the last one itself, one step and several above it.
		{1, 1, []int{1}, []impl.Cell{{Key: "a", Num: 5}, {Key: "b", Num: 1}}},
		{1, 2, []int{1, 2}, []impl.Cell{{Key: "a", Num: 7}, {Key: "b"}, {Key: "c", Num: 3}}},
		{8, 9, []int{8, 9}, []impl.Cell{{Key: "b", Num: 1001}, {Key: "e"}}},
		{2, 2, []int{1, 2}, []impl.Cell{{Key: "a", Num: 7}, {Key: "b"}, {Key: "c", Num: 3}}},
		{2, 3, []int{1, 2, 3}, []impl.Cell{{Key: "a", Num: 7}, {Key: "b"}, {Key: "c", Num: 3}}},
		{2, 4, []int{1, 2, 3, 4}, []impl.Cell{{Key: "a"}, {Key: "b"}, {Key: "c", Num: 3}, {Key: "d", Num: 4}}},
		{3, 5, []int{1, 2, 3, 4, 5}, []impl.Cell{{Key: "a"}, {Key: "b", Num: 7}, {Key: "c", Num: 3}, {Key: "d"}}},
		{2, 6, []int{1, 2, 6}, []impl.Cell{{Key: "a", Num: 77}, {Key: "b"}, {Key: "c", Num: 3}, {Key: "z", Num: 8}}},
	} {
		p := behind(tree, c.last)
		want := p
		want.Row, want.Cells = c.row, c.cells
		holdThrough(t, tree, p, c.k, want)
		// What is too early is taken back ahead of it.
		for _, k := range []int{0, 1, 2, 5, 7, 9} {
			holdThrough(t, tree, plainTooEarly(tree, p, k), c.k, want)
		}
	}
}

// Where k does not extend the last one of the Row, all stays, what is too early among that.
func TestThroughOfWhatDoesNotExtend(t *testing.T) {
	tree := accountTree()
	for _, c := range []struct {
		last int
		ks   []int
	}{
		{0, []int{-1, 10}}, {1, []int{0, 8, 9, -1, 10}}, {2, []int{0, 1, 8, 9}}, {3, []int{0, 1, 2, 6, 7, 8, 9}}, {5, []int{0, 1, 2, 3, 4, 6, 7, 8, 9, 10}}, {7, []int{0, 1, 2, 3, 4, 5, 6, 8, 9}}, {8, []int{0, 1, 2, 3, 4, 5, 6, 7}},
	} {
		p := behind(tree, c.last)
		for _, early := range []int{-1, c.last, min(c.last+1, 5), 5, 7, 9} {
			was := plainTooEarly(tree, p, early)
			for _, k := range append(c.ks, math.MinInt, -1, len(tree), math.MaxInt) {
				holdThrough(t, tree, was, k, was)
			}
		}
	}
	// Without a tree nothing extends.
	p := behind(tree, 2)
	p.Early, p.Undos = []int{5}, []impl.Undo{had("a", 1)}
	for _, k := range []int{math.MinInt, -1, 0, 1, 2, math.MaxInt} {
		holdThrough(t, nil, p, k, p)
		holdThrough(t, nil, impl.Peer{}, k, impl.Peer{})
	}
	// A Row whose last one is none of the tree is extended by nothing.
	for _, row := range [][]int{{-1}, {10}, {1, 2, -1}, {1, 2, 10}, {1, math.MaxInt}, {1, math.MinInt}} {
		p.Row = row
		for _, k := range askedPlaces(tree) {
			holdThrough(t, tree, p, k, p)
		}
	}
}

func TestTooEarly(t *testing.T) {
	tree := accountTree() // 0 - 1 - 2 - 3 - 4 - 5, 2 - 6 - 7, 0 - 8 - 9
	for _, c := range []struct {
		last  int
		k     int
		early []int
		cells []impl.Cell
		undos []impl.Undo
	}{
		{0, 0, nil, nil, nil},
		{0, 1, []int{1}, []impl.Cell{{Key: "a", Num: 5}, {Key: "b", Num: 1}}, []impl.Undo{gone("a"), gone("b")}},
		{0, 2, []int{1, 2}, []impl.Cell{{Key: "a", Num: 7}, {Key: "b"}, {Key: "c", Num: 3}}, []impl.Undo{gone("a"), gone("b"), had("a", 5), had("b", 1), had("a", 7), gone("c")}},
		{1, 1, nil, []impl.Cell{{Key: "a", Num: 5}, {Key: "b", Num: 1}}, nil},
		{1, 2, []int{2}, []impl.Cell{{Key: "a", Num: 7}, {Key: "b"}, {Key: "c", Num: 3}}, []impl.Undo{had("a", 5), had("b", 1), had("a", 7), gone("c")}},
		{2, 3, []int{3}, []impl.Cell{{Key: "a", Num: 7}, {Key: "b"}, {Key: "c", Num: 3}}, nil},
		{2, 4, []int{3, 4}, []impl.Cell{{Key: "a"}, {Key: "b"}, {Key: "c", Num: 3}, {Key: "d", Num: 4}}, []impl.Undo{had("a", 7), gone("q"), gone("d")}},
		{3, 5, []int{4, 5}, []impl.Cell{{Key: "a"}, {Key: "b", Num: 7}, {Key: "c", Num: 3}, {Key: "d"}}, []impl.Undo{had("a", 7), gone("q"), gone("d"), had("d", 4), had("b", 0), had("b", 9)}},
		{8, 9, []int{9}, []impl.Cell{{Key: "b", Num: 1001}, {Key: "e"}}, []impl.Undo{had("b", 1000), had("b", 1000), gone("e")}},
		// What does not extend: nothing is early.
		{1, 0, nil, []impl.Cell{{Key: "a", Num: 5}, {Key: "b", Num: 1}}, nil},
		{3, 2, nil, []impl.Cell{{Key: "a", Num: 7}, {Key: "b"}, {Key: "c", Num: 3}}, nil},
		{3, 7, nil, []impl.Cell{{Key: "a", Num: 7}, {Key: "b"}, {Key: "c", Num: 3}}, nil},
		{8, 1, nil, []impl.Cell{{Key: "b", Num: 1000}}, nil},
		{8, -1, nil, []impl.Cell{{Key: "b", Num: 1000}}, nil}, {8, 10, nil, []impl.Cell{{Key: "b", Num: 1000}}, nil}, {0, -1, nil, nil, nil}, {0, 10, nil, nil, nil}, {8, math.MinInt, nil, []impl.Cell{{Key: "b", Num: 1000}}, nil}, {8, math.MaxInt, nil, []impl.Cell{{Key: "b", Num: 1000}}, nil},
	} {
		p := behind(tree, c.last)
		want := p
		want.Early, want.Cells, want.Undos = c.early, c.cells, c.undos
		holdTooEarly(t, tree, p, c.k, want)
		// What was too early before is taken back ahead of it, be it the same, or more, or less, or something else.
		for k := range tree {
			before := plainTooEarly(tree, p, k)
			holdTooEarly(t, tree, before, c.k, want)
			holdTooEarly(t, tree, plainTooEarly(tree, before, 9-k), c.k, want)
		}
	}
}

// Where nothing extends, what was too early is taken back all the same: in an empty tree, and behind a Row that is none.
func TestTooEarlyTakesBackAlways(t *testing.T) {
	tree := accountTree()
	p := plainTooEarly(tree, behind(tree, 2), 5)
	want := behind(tree, 2)
	for _, k := range []int{math.MinInt, -1, 0, 1, 2, 5, math.MaxInt} {
		holdTooEarly(t, nil, p, k, want)
	}
	for _, row := range [][]int{{-1}, {10}, {1, 2, 10}, {1, math.MaxInt}} {
		p.Row, want.Row = row, row
		for _, k := range askedPlaces(tree) {
			holdTooEarly(t, tree, p, k, want)
		}
	}
}

// Promise 10: what was too early leaves nothing. Each block of each tree is let through, and what is too early there once, and twice, is held against what is made from nothing on.
func TestWhatWasTooEarlyLeavesNothing(t *testing.T) {
	ahead, same, clashing := 0, 0, 0
	for _, tree := range cmdTrees() {
		for last := range tree {
			p := impl.Through(tree, impl.PeerNew(1), last)
			if !slices.Equal(p.Row, plainRowTo(tree, last)) || !slices.Equal(p.Cells, plainRowCells(tree, p.Row)) {
				t.Fatalf("Through of %d makes %s", last, brief(p))
			}
			for early := range tree {
				once := impl.TooEarly(tree, p, early)
				holdWholeEarly(t, tree, p, once, early)
				for k := range tree {
					holdWholeEarly(t, tree, p, impl.TooEarly(tree, once, k), k)
					if !plainExtends(tree, k, last) {
						holdThrough(t, tree, once, k, once)
						continue
					}
					holdThrough(t, tree, once, k, impl.Through(tree, p, k))
					switch {
					case len(once.Early) == 0:
					case k == early:
						same++
					case plainExtends(tree, early, k):
						ahead++
					case plainClash(tree, early, k):
						clashing++
					}
				}
			}
		}
	}
	if ahead < 20 || same < 20 || clashing < 20 {
		t.Errorf("only %d are ahead of what was too early, %d the same, %d clash", ahead, same, clashing)
	}
}

// holdWholeEarly holds what TooEarly of k made of p, whatever was too early between, against what is made from nothing on.
func holdWholeEarly(t *testing.T, tree []impl.Block, p impl.Peer, got impl.Peer, k int) {
	t.Helper()
	early := plainRowAfter(tree, k, plainLast(p.Row))
	cmds := 0
	for _, at := range early {
		cmds += len(tree[at].Cmds)
	}
	if !slices.Equal(got.Row, p.Row) || !slices.Equal(got.Early, early) || len(got.Undos) != cmds || !slices.Equal(got.Cells, plainRowCells(tree, slices.Concat(p.Row, early))) {
		t.Fatalf("TooEarly of %d behind %v: %s", k, p.Row, brief(got))
	}
	if back := impl.UndoneAll(got.Cells, got.Undos); !slices.Equal(back, plainRowCells(tree, p.Row)) {
		t.Fatalf("TooEarly of %d behind %v is taken back to %v", k, p.Row, back)
	}
	if got.Id != p.Id || got.View != p.View || got.High != p.High || got.Lock != p.Lock || got.Last != p.Last || len(got.Votes) != len(p.Votes) || len(got.News) != len(p.News) || got.Shown != p.Shown {
		t.Fatalf("TooEarly of %d turns %s into %s", k, brief(p), brief(got))
	}
}

// Long drawn ways of one replica: at each step its Cells are what its Row and Early make, and without Early what its Row makes.
func TestAccountsAreWhatBlocksMake(t *testing.T) {
	seed := uint32(9)
	draw := func(below int) int {
		seed = seed*1664525 + 1013904223
		return int(seed>>8) % below
	}
	for _, tree := range cmdTrees() {
		for range 30 {
			p := impl.PeerNew(3)
			for range 40 {
				k := draw(len(tree)+2) - 1
				if draw(4) == 0 {
					p = impl.Through(tree, p, min(k, plainLast(p.Row)+2))
				} else {
					p = impl.TooEarly(tree, p, k)
				}
				if !impl.PeerOk(tree, 4, p) || !slices.Equal(p.Cells, plainRowCells(tree, slices.Concat(p.Row, p.Early))) || !slices.Equal(impl.UndoneAll(p.Cells, p.Undos), plainRowCells(tree, p.Row)) {
					t.Fatalf("in %s there is %s", brief(tree), brief(p))
				}
			}
			// One that falls has forgotten what was too early, and nothing else of its accounts.
			fell := impl.Fallen(tree, p)
			if back := impl.TooEarly(tree, p, -1); !slices.Equal(fell.Cells, back.Cells) || !slices.Equal(fell.Row, back.Row) {
				t.Fatalf("it fell to %v, and took back to %v", fell.Cells, back.Cells)
			}
		}
	}
}

// madeUp are replicas whose Rows, Cells, Early and Undos nobody made: of each something right and something wrong, one beside the other.
func madeUp(tree []impl.Block) []impl.Peer {
	rows := [][]int{nil, {0}, {-1}, {len(tree)}, {math.MaxInt}, {math.MinInt, 1}, {1, 1, 1}, {5, 0}, {len(tree) - 1}}
	for k := range min(len(tree), 8) {
		rows = append(rows, plainRowTo(tree, k), []int{k, k - 1})
	}
	cells := append(rightLists(), wrongLists()[:40]...)
	undos := [][]impl.Undo{nil, {}, {gone("b")}, {had("b", 5)}, {had("zzz", 1), had("zzy", 2), had("zzx", 3)}, someUndos(), wrongUndos()[:30], wrongUndos()[len(wrongUndos())-20:], slices.Concat(someUndos()[:20], wrongUndos()[:10], someUndos()[20:])}
	earlies := [][]int{nil, {1}, {-1, math.MaxInt}, {2, 2, 0}}
	var out []impl.Peer
	for i := range len(rows) * 9 {
		out = append(out, impl.Peer{
			Id: i - 3, View: i * 5, Last: impl.Vote{Phase: i, View: -i}, Row: rows[i%len(rows)], Cells: cells[i*7%len(cells)], Undos: undos[i*5%len(undos)], Early: earlies[i%len(earlies)],
			Votes: someVotes()[:i%4], News: wildLetters()[:i%3], Shown: -i,
		})
	}
	return out
}

func TestThroughAndTooEarlyByTheWords(t *testing.T) {
	moved, stayed, early := 0, 0, 0
	trees := slices.DeleteFunc(slices.Concat(cmdTrees(), rightTrees(), wrongTrees()[:20], brokenTrees()[:30], wildTrees()[200:220]), func(tree []impl.Block) bool { return len(tree) > 20 })
	trees = append(trees, []impl.Block{{Parent: 5, Cmds: []impl.Cmd{set("a", 1)}}}, []impl.Block{{Cmds: []impl.Cmd{set("a", 1)}}, {Cmds: wrongCmds()[:9]}, {Parent: 1, Cmds: rightCmds()}})
	for _, tree := range trees {
		for _, p := range madeUp(tree) {
			for _, k := range askedPlaces(tree) {
				through, soon := plainThrough(tree, p, k), plainTooEarly(tree, p, k)
				holdThrough(t, tree, p, k, through)
				holdTooEarly(t, tree, p, k, soon)
				if len(through.Row) > len(p.Row) {
					moved++
				} else {
					stayed++
				}
				if len(soon.Early) > 0 {
					early++
				}
			}
		}
	}
	if moved < 1000 || stayed < 1000 || early < 1000 {
		t.Errorf("only %d go through, %d stay, %d are too early", moved, stayed, early)
	}
}

// Undos that bring back more accounts than there may be make a list that is not right: it stays so, whatever comes behind.
func TestUndosThatFindNoRoom(t *testing.T) {
	tree := accountTree()
	p := impl.Peer{Id: 1, View: 1, Cells: cellsWith(impl.MaxCells), Undos: []impl.Undo{had("b", 999), had("zzz", 1)}}
	over := cellsAnd(cellsWith(impl.MaxCells), "zzz", 1)
	if len(over) != impl.MaxCells+1 {
		t.Fatalf("there is room: %v", over)
	}
	want := impl.Peer{Id: 1, View: 1, Cells: over, Row: []int{1}}
	holdThrough(t, tree, p, 1, want)
	want.Row, want.Early, want.Undos = nil, []int{1}, []impl.Undo{gone("a"), had("b", 0)}
	holdTooEarly(t, tree, p, 1, want)
}

// A whole row, of as many blocks as there may be, goes through at once, step by step, and too early.
func TestLongRowsGoThrough(t *testing.T) {
	tree := rowWith(impl.MaxBlocks)
	last := len(tree) - 1
	var all []int
	for k := 1; k <= last; k++ {
		all = append(all, k)
	}
	made := []impl.Cell{{Key: "a", Num: last - 1}}
	holdThrough(t, tree, impl.PeerNew(0), last, impl.Peer{View: 1, Row: all, Cells: made})
	soon := impl.TooEarly(tree, impl.PeerNew(0), last)
	if !slices.Equal(soon.Early, all) || !slices.Equal(soon.Cells, made) || len(soon.Undos) != last || soon.Undos[0] != gone("a") {
		t.Errorf("TooEarly of %d = %s", last, brief(soon))
	}
	p := impl.PeerNew(0)
	for k := range tree {
		p = impl.Through(tree, impl.TooEarly(tree, p, last), k)
	}
	if !samePeer(p, impl.Peer{View: 1, Row: all, Cells: made}) {
		t.Errorf("step by step %s goes through", brief(p))
	}
}

// ownMemory is a roomyPeer whose keys stand each in a memory of its own.
func ownMemory(p impl.Peer) impl.Peer {
	p = roomyPeer(p)
	for i := range p.Cells {
		p.Cells[i].Key = strings.Clone(p.Cells[i].Key)
	}
	for i := range p.Undos {
		p.Undos[i].Key = strings.Clone(p.Undos[i].Key)
	}
	return p
}

// safeAnswers are what all functions of the chapter that answer a replica make of one.
func safeAnswers(tree []impl.Block, p impl.Peer) []impl.Peer {
	voted, _ := impl.Voted(p, impl.PhTwo, 9, 3)
	out := []impl.Peer{voted, impl.Entered(p, p.View), impl.Entered(p, 800)}
	for _, k := range []int{-1, 0, 1, 2, 4, 7, len(tree)} {
		out = append(out, impl.Through(tree, p, k), impl.TooEarly(tree, p, k))
	}
	return out
}

func somePlainPeers() []impl.Peer {
	tree := accountTree()
	var out []impl.Peer
	for _, last := range []int{0, 1, 2, 5} {
		p := behind(tree, last)
		out = append(out, p, plainTooEarly(tree, p, 5), plainTooEarly(tree, p, 7))
	}
	bare := impl.PeerNew(2)
	return slices.Concat(out, []impl.Peer{bare, withTheRest(bare)}, madeUp(tree)[:60])
}

func TestSafeArgumentsStay(t *testing.T) {
	for _, tree := range append(wrongTrees()[:12], accountTree(), fullTree(), wrongCmdsTree(), nil) {
		whole, front := roomyTree(tree)
		was := wholeTree(whole)
		for _, p := range somePlainPeers() {
			asked := ownMemory(p)
			askedWas := wholePeer(asked)
			for k := range 4 {
				impl.SafeBlock(front, p.Lock, k)
				impl.MayVote(asked, k, k)
				// What stands in the spare room is not looked at, nor told.
				holdThrough(t, front, asked, k, plainThrough(tree, p, k))
				holdTooEarly(t, front, asked, k, plainTooEarly(tree, p, k))
			}
			for _, got := range safeAnswers(front, asked) {
				soilPeer(got)
			}
			if !samePeer(wholePeer(asked), askedWas) {
				t.Fatalf("the replica is changed: %s, was %s", brief(wholePeer(asked)), brief(askedWas))
			}
		}
		if !sameTree(wholeTree(whole), was) {
			t.Fatalf("the tree is changed: %s, was %s", brief(whole), brief(was))
		}
	}
}

// What is written into an argument, or into another answer, later is not seen in an answer.
func TestSafeAnswersNewMemory(t *testing.T) {
	tree := accountTree()
	for _, p := range somePlainPeers() {
		for i := range safeAnswers(tree, p) {
			_, front := roomyTree(tree)
			for _, b := range front {
				for i := range b.Cmds {
					b.Cmds[i].Key = strings.Clone(b.Cmds[i].Key)
				}
			}
			asked := ownMemory(p)
			answers := safeAnswers(front, asked)
			got := answers[i]
			want := wholePeer(got)
			want.Row, want.Early, want.Cells, want.Undos, want.Votes, want.News = want.Row[:len(got.Row)], want.Early[:len(got.Early)], want.Cells[:len(got.Cells)], want.Undos[:len(got.Undos)], want.Votes[:len(got.Votes)], want.News[:len(got.News)]
			keys := slices.Concat(keysOf(got.Cells, got.Undos), keysOf(asked.Cells, asked.Undos), cmdKeys(front))
			if !ownKeys(keys) {
				t.Fatalf("answer %d: keys stand in one memory, or in an argument's: %s", i, brief(got))
			}
			for j, other := range answers {
				if j != i {
					soilPeer(other)
				}
			}
			soilPeer(asked)
			soilTree(front)
			if !samePeer(got, want) {
				t.Fatalf("answer %d shares memory: %s, was %s", i, brief(got), brief(want))
			}
			// No two lists of one answer share any.
			soilNumbers(got.Row)
			if !slices.Equal(got.Early, want.Early) {
				t.Fatalf("answer %d: Row and Early share memory", i)
			}
		}
	}
}

// An empty list with spare room is not handed back, either: what grows in the answer later grows elsewhere.
func TestSafeAnswersNoSpareRoom(t *testing.T) {
	tree := accountTree()
	asked := roomyPeer(impl.PeerNew(2))
	for i, got := range safeAnswers(tree, asked) {
		if got.Row != nil && unsafe.SliceData(got.Row) == unsafe.SliceData(asked.Row) || got.Early != nil && unsafe.SliceData(got.Early) == unsafe.SliceData(asked.Early) || got.Cells != nil && unsafe.SliceData(got.Cells) == unsafe.SliceData(asked.Cells) ||
			got.Undos != nil && unsafe.SliceData(got.Undos) == unsafe.SliceData(asked.Undos) || got.Votes != nil && unsafe.SliceData(got.Votes) == unsafe.SliceData(asked.Votes) || got.News != nil && unsafe.SliceData(got.News) == unsafe.SliceData(asked.News) {
			t.Errorf("answer %d has a list of the argument's memory", i)
		}
	}
}

// The same is answered each time.
func TestSafeAnswersAreTheSameEachTime(t *testing.T) {
	tree := fullTree()
	p := impl.TooEarly(tree, impl.Through(tree, impl.PeerNew(1), 2), 6)
	for range 50 {
		holdTooEarly(t, tree, p, 7, plainTooEarly(tree, p, 7))
		holdThrough(t, tree, p, 8, plainThrough(tree, p, 8))
	}
}

// The chapter 'Ways': what is asked is a method expression in a list. Both functions that ask have such a list.
func TestWhatIsAskedStandsInAList(t *testing.T) {
	file, err := parser.ParseFile(token.NewFileSet(), "../impl/l10_safe.go", nil, 0)
	if err != nil {
		t.Fatal(err)
	}
	has := methodsByType(file)
	for _, d := range file.Decls {
		f, ok := d.(*ast.FuncDecl)
		if ok && slices.Contains([]string{"SafeBlock", "MayVote"}, f.Name.Name) && askedInLists(f, has) < 2 {
			t.Errorf("%s asks no list of method expressions", f.Name.Name)
		}
	}
}

// askedInLists counts the method expressions that stand in lists that are written out in a function.
func askedInLists(f *ast.FuncDecl, has map[string][]string) int {
	found := 0
	ast.Inspect(f, func(n ast.Node) bool {
		list, ok := n.(*ast.CompositeLit)
		if !ok {
			return true
		}
		if _, ok := list.Type.(*ast.ArrayType); !ok {
			return true
		}
		for _, e := range list.Elts {
			if s, ok := e.(*ast.SelectorExpr); ok {
				if of, ok := s.X.(*ast.Ident); ok && slices.Contains(has[of.Name], s.Sel.Name) {
					found++
				}
			}
		}
		return true
	})
	return found
}
