package tests

import (
	"go/ast"
	"go/parser"
	"go/token"
	"math"
	"slices"
	"strings"
	"testing"
	"unsafe"

	"loop.example/g00330/impl"
)

// chainTree has a row whose Views follow one another, but for 6 and those between 11 and 897, and two branches beside it:
// 0 - 1 - 2 - 3 - 4 - 5 - 6 - 7 - 8 - 9 - 10 - 19 - 20 - 21 - 22 of the Views 1 2 3 4 5, 7 8 9 10 11, 897 898 899 900;
// 2 - 11 - 12 - 13 - 14 of 6 7 8 9; 0 - 15 - 16 - 17 - 18 of 2 3 4 5; 20 - 23 of 900
func chainTree(n int) []impl.Block {
	tree := []impl.Block{first()}
	for _, b := range []struct {
		parent, view int
		cmds         []impl.Cmd
	}{
		{0, 1, []impl.Cmd{set("a", 5)}},
		{1, 2, []impl.Cmd{add("a", 2), set("b", 1)}},
		{2, 3, nil},
		{3, 4, []impl.Cmd{take("a", 1), take("b", 100)}},
		{4, 5, []impl.Cmd{set("c", 3)}},
		{5, 7, []impl.Cmd{add("c", 1), take("b", 1)}},
		{6, 8, []impl.Cmd{set("d", 1)}},
		{7, 9, []impl.Cmd{set("b", 9), add("a", impl.MaxNumber)}},
		{8, 10, nil},
		{9, 11, []impl.Cmd{set("e", 4), set("a", 0)}},
		{2, 6, []impl.Cmd{set("x", 1), take("a", 3)}},
		{11, 7, []impl.Cmd{add("x", 1)}},
		{12, 8, []impl.Cmd{set("y", 2)}},
		{13, 9, []impl.Cmd{set("x", 0)}},
		{0, 2, []impl.Cmd{set("q", 8)}},
		{15, 3, []impl.Cmd{add("q", 1)}},
		{16, 4, nil},
		{17, 5, []impl.Cmd{take("q", 9)}},
		{10, impl.MaxView - 3, []impl.Cmd{add("e", 1)}},
		{19, impl.MaxView - 2, []impl.Cmd{set("f", 7)}},
		{20, impl.MaxView - 1, []impl.Cmd{take("f", 7)}},
		{21, impl.MaxView, []impl.Cmd{set("g", 1)}},
		{20, impl.MaxView, nil},
	} {
		tree = append(tree, signedOn(tree, n, impl.PhChain, b.parent, b.view, b.cmds...))
	}
	return tree
}

// lineOf is a row of blocks of these Views, the first block's among them, each with enough votes for the one ahead; it may be a row that is not right.
func lineOf(views ...int) []impl.Block {
	var tree []impl.Block
	for i, view := range views {
		b := impl.Block{Parent: i - 1, View: view}
		if i > 0 {
			b.Cmds = []impl.Cmd{set(string([]byte{byte('a' + i%26)}), i)}
		}
		if i > 1 {
			b.Just = impl.Qc{Phase: impl.PhChain, View: views[i-1], Block: i - 1, Signers: 15}
		}
		tree = append(tree, b)
	}
	return tree
}

// justTrees are trees whose Justs are drawn: of blocks ahead and behind, of such as are not there, and of Views about those of the blocks.
func justTrees() [][]impl.Block {
	draw := drawn(41)
	wild := fieldNumbers()
	var out [][]impl.Block
	for i := range 60 {
		tree := []impl.Block{first()}
		for len(tree) < 9 {
			k := len(tree)
			b := impl.Block{Parent: draw(k), View: k + draw(2), Cmds: []impl.Cmd{set(string([]byte{byte('a' + k)}), k), add("a", 1)}}
			b.Just = impl.Qc{Phase: impl.PhChain, View: b.View - 1 - draw(2), Block: max(k-1-draw(2), 0), Signers: 15}
			if b.Parent = b.Just.Block; draw(6) == 0 {
				b.Parent = draw(k+2) - 1
			}
			switch draw(3 + i%9) {
			case 0:
				b.Just.Block = draw(13) - 2
			case 1:
				b.Just.Block = wild[draw(len(wild))]
			case 2:
				b.Just.View = wild[draw(len(wild))]
			case 3:
				b.View = wild[draw(len(wild))]
			}
			tree = append(tree, b)
		}
		if draw(4) == 0 {
			tree[0].Just = impl.Qc{Phase: impl.PhChain, View: draw(5), Block: draw(9), Signers: 7}
			tree[0].View = draw(4)
		}
		out = append(out, tree)
	}
	return out
}

func oneHigher(high int, low int) bool { return high != math.MinInt && high-1 == low }

// plainRows, plainLearn and plainChain are the chapter's own words, sentence by sentence. plainRows tells c, when b and c are so, and d, when all three are.
func plainRows(tree []impl.Block, k int) (c int, two bool, d int, three bool) {
	there := func(k int) bool { return k >= 0 && k < len(tree) }
	if !there(k) || !there(tree[k].Just.Block) {
		return
	}
	b := tree[k].Just.Block
	if b == 0 || !there(tree[b].Just.Block) {
		return
	}
	next := tree[b].Just.Block
	if next == 0 || !oneHigher(tree[b].View, tree[next].View) {
		return
	}
	c, two = next, true
	if last := tree[c].Just.Block; there(last) && oneHigher(tree[c].View, tree[last].View) {
		d, three = last, true
	}
	return
}

func plainLearn(tree []impl.Block, p impl.Peer, k int) impl.Peer {
	if k < 0 || k >= len(tree) {
		return p
	}
	just := tree[k].Just
	if just.Block < 0 || just.Block >= len(tree) {
		return p
	}
	if just.View > p.High.View {
		p.High = just
	}
	if under := tree[just.Block].Just; under.View > p.Lock.View {
		p.Lock = under
	}
	c, two, d, three := plainRows(tree, k)
	if three {
		p = plainThrough(tree, p, d)
	}
	if two {
		p = plainTooEarly(tree, p, c)
	}
	return p
}

func plainChain(tree []impl.Block, n int, p impl.Peer, l impl.Letter) (impl.Peer, []impl.Letter) {
	if l.To != p.Id || !plainLetterOk(tree, n, l) {
		return p, nil
	}
	switch l.Kind {
	case 1:
		if l.From != plainLeader(l.View, n) {
			return p, nil
		}
		may, safe := plainMayVote(p, 4, l.View), plainSafeBlock(tree, p.Lock, l.Block)
		p = plainLearn(tree, p, l.Block)
		if !may || !safe || l.View < p.View {
			return p, nil
		}
		voted, v := plainVoted(p, 4, l.View, l.Block)
		return plainEntered(voted, l.View+1), []impl.Letter{{Kind: 2, From: p.Id, To: plainLeader(l.View+1, n), View: l.View, Vote: v}}
	case 2:
		return plainLead(tree, n, p, l)
	case 4:
		heard, out := plainLead(tree, n, p, l)
		if l.Qc.View > heard.High.View {
			heard.High = l.Qc
		}
		return heard, out
	}
	return p, nil
}

func holdThree(t *testing.T, tree []impl.Block, k int, d int, three bool) {
	t.Helper()
	if got, ok := impl.ThreeRow(tree, k); got != d || ok != three {
		t.Fatalf("ThreeRow(%s, %d) = %d, %v, want %d, %v", brief(tree), k, got, ok, d, three)
	}
}

func holdLearn(t *testing.T, tree []impl.Block, p impl.Peer, k int, want impl.Peer) {
	t.Helper()
	if got := impl.ChainLearn(tree, p, k); !samePeer(got, want) {
		t.Fatalf("ChainLearn(%s, %+v, %d) =\n%+v, want\n%+v", brief(tree), p, k, got, want)
	}
}

func holdChain(t *testing.T, tree []impl.Block, n int, p impl.Peer, l impl.Letter, want impl.Peer, said ...impl.Letter) {
	t.Helper()
	got, out := impl.ChainHear(tree, n, p, l)
	if !samePeer(got, want) || !slices.Equal(out, said) {
		t.Fatalf("ChainHear(%s, %d, %+v, %+v) =\n%+v, %+v, want\n%+v, %+v", brief(tree), n, p, l, got, out, want, said)
	}
}

// atRow is a replica with something in all of it, whose Row leads to the one block, and with what leads to the other one done too early.
func atRow(tree []impl.Block, last int, early int) impl.Peer {
	p := behind(tree, last)
	p.High, p.Lock, p.Last = impl.Qc{}, impl.Qc{}, impl.Vote{}
	return plainTooEarly(tree, p, early)
}

func TestThreeRow(t *testing.T) {
	none := -1
	want := []int{0: none, 1: none, 2: none, 3: 0, 4: 1, 5: 2, 6: 3, 7: none, 8: none, 9: 6, 10: 7, 11: 0, 12: none, 13: none, 14: 11, 15: none, 16: none, 17: none, 18: 15, 19: 8, 20: none, 21: none, 22: 19, 23: none}
	for n := 1; n <= impl.MaxPeers; n++ {
		tree := chainTree(n)
		if len(tree) != len(want) || !plainTreeOk(tree) {
			t.Fatalf("the tree is not right: %v", tree)
		}
		for k, d := range want {
			holdThree(t, tree, k, max(d, 0), d != none)
		}
		for _, k := range []int{math.MinInt, -2, -1, len(tree), len(tree) + 1, math.MaxInt} {
			holdThree(t, tree, k, 0, false)
		}
	}
	for _, k := range []int{math.MinInt, -1, 0, 1, math.MaxInt} {
		holdThree(t, nil, k, 0, false)
		holdThree(t, impl.TreeNew(), k, 0, false)
	}
}

// Views of d, c, b and k: just one above another one are neither two above it, nor its own.
func TestRowsOfViews(t *testing.T) {
	most, least := math.MaxInt, math.MinInt
	for _, c := range []struct {
		d, c, b, k int
		two, three bool
	}{
		{1, 2, 3, 4, true, true}, {5, 6, 7, 8, true, true}, {897, 898, 899, 900, true, true},
		// What k's own View is does not matter.
		{1, 2, 3, 5, true, true}, {1, 2, 3, 900, true, true}, {1, 2, 3, 3, true, true}, {1, 2, 3, -5, true, true}, {1, 2, 3, most, true, true},
		{1, 2, 4, 5, false, false}, {1, 2, 5, 6, false, false}, {1, 2, 900, 901, false, false}, {1, 3, 4, 5, true, false}, {1, 4, 5, 6, true, false}, {1, 3, 5, 7, false, false}, {1, 3, 5, 6, false, false},
		{1, 2, 2, 3, false, false}, {2, 2, 3, 4, true, false}, {3, 3, 3, 3, false, false}, {3, 2, 3, 4, true, false}, {4, 2, 3, 4, true, false}, {1, 4, 3, 5, false, false}, {1, 5, 3, 5, false, false}, {4, 3, 2, 1, false, false},
		// A block of View 0 that is not the first one, and Views that no right block has.
		{0, 1, 2, 3, true, true}, {-1, 0, 1, 2, true, true}, {-2, -1, 0, 1, true, true}, {-9, -8, -7, 3, true, true}, {-7, -8, -9, 3, false, false}, {899, 900, 901, 902, true, true}, {900, 901, 902, 903, true, true},
		{most - 2, most - 1, most, 4, true, true}, {most - 1, most, least, 4, false, false}, {most, least, least + 1, 4, true, false}, {least, least + 1, least + 2, 4, true, true}, {1, most, least, 4, false, false}, {most, most, most, 4, false, false}, {least, least, least, 4, false, false}, {1, least, most, 4, false, false}, {least, most, most, 4, false, false},
	} {
		tree := lineOf(0, c.d, c.c, c.b, c.k)
		d, row := 0, []int(nil)
		if c.three {
			d, row = 1, []int{1}
		}
		holdThree(t, tree, 4, d, c.three)
		early := []int(nil)
		if c.two {
			early = []int{1, 2}[len(row):]
		}
		got := impl.ChainLearn(tree, impl.PeerNew(1), 4)
		if !slices.Equal(got.Row, row) || !slices.Equal(got.Early, early) {
			t.Errorf("of %d, %d, %d and %d: Row %v, Early %v, want %v, %v", c.d, c.c, c.b, c.k, got.Row, got.Early, row, early)
		}
		holdLearn(t, tree, impl.PeerNew(1), 4, plainLearn(tree, impl.PeerNew(1), 4))
		// The same three, of which the last one is the first block: it stands at no Row's end, but it is in a row with them.
		tree = lineOf(c.d, c.c, c.b, c.k)
		holdThree(t, tree, 3, 0, c.three)
		got = impl.ChainLearn(tree, impl.PeerNew(1), 3)
		if early = nil; c.two {
			early = []int{1}
		}
		if len(got.Row) != 0 || !slices.Equal(got.Early, early) {
			t.Errorf("of %d, %d, %d and %d from the first block on: Row %v, Early %v", c.d, c.c, c.b, c.k, got.Row, got.Early)
		}
		// Where c, or b, is the first block nothing is done.
		for _, short := range [][]impl.Block{lineOf(c.c, c.b, c.k), lineOf(c.b, c.k), lineOf(c.k)} {
			holdThree(t, short, len(short)-1, 0, false)
			if got := impl.ChainLearn(short, impl.PeerNew(1), len(short)-1); len(got.Row)+len(got.Early)+len(got.Cells) != 0 {
				t.Errorf("of %s %+v goes through", brief(short), got)
			}
		}
	}
}

// The Justs tell which three are in a row; what d and c stand on is told by Parents.
func TestRowsFollowJusts(t *testing.T) {
	tree := lineOf(0, 1, 2, 3, 4)
	tree[4].Parent, tree[3].Parent = 0, 1
	holdThree(t, tree, 4, 1, true)
	holdLearn(t, tree, impl.PeerNew(0), 4, impl.Peer{View: 1, High: tree[4].Just, Lock: tree[3].Just, Row: []int{1}, Early: []int{2}, Cells: []impl.Cell{{Key: "b", Num: 1}, {Key: "c", Num: 2}}, Undos: []impl.Undo{gone("c")}})
	// c stands beside d: with d let through, nothing is early.
	tree[2].Parent = 0
	holdThree(t, tree, 4, 1, true)
	holdLearn(t, tree, impl.PeerNew(0), 4, impl.Peer{View: 1, High: tree[4].Just, Lock: tree[3].Just, Row: []int{1}, Cells: []impl.Cell{{Key: "b", Num: 1}}})
	// d stands on nothing that leads down: it is told, but not let through; c does the same.
	tree[1].Parent, tree[2].Parent = 9, 1
	holdThree(t, tree, 4, 1, true)
	holdLearn(t, tree, impl.PeerNew(0), 4, impl.Peer{View: 1, High: tree[4].Just, Lock: tree[3].Just})
	// Blocks behind, and one that its own Just is of.
	tree = lineOf(0, 4, 3, 2, 1)
	for k := range tree {
		tree[k].Just.Block = k + 1
	}
	for _, just := range []int{5, 4} {
		tree[4].Just.Block = just
		for k, d := range []int{3, 4, 0, 0, 0} {
			holdThree(t, tree, k, d, k < 2)
			holdLearn(t, tree, impl.PeerNew(0), k, plainLearn(tree, impl.PeerNew(0), k))
		}
	}
	// Where they go round, a block may be among the three that it stands on.
	tree[4].Just.Block = 2
	holdThree(t, tree, 4, 4, true)
	holdThree(t, tree, 3, 0, false)
	holdLearn(t, tree, impl.PeerNew(0), 4, plainLearn(tree, impl.PeerNew(0), 4))
	// The Views of the Justs themselves do not matter.
	tree = lineOf(0, 1, 2, 3, 4)
	for k := range tree {
		tree[k].Just.View = 77 - 11*k
		tree[k].Just.Phase, tree[k].Just.Signers = k-2, -k
	}
	holdThree(t, tree, 4, 1, true)
	holdThree(t, tree, 3, 0, true)
}

// A Just of a block that is not there: of k's own nothing is learnt, of b's and c's what it tells is heard as far as it goes.
func TestJustsOfBlocksThatAreNotThere(t *testing.T) {
	for _, nowhere := range []int{math.MinInt, -2, -1, 5, 6, 7, math.MaxInt} {
		was := plainTooEarly(lineOf(0, 1, 2, 3, 4), impl.Peer{Id: 1, View: 1, Lock: impl.Qc{View: 1, Block: 1}}, 3)
		tree := lineOf(0, 1, 2, 3, 4)
		tree[4].Just.Block = nowhere
		holdThree(t, tree, 4, 0, false)
		holdLearn(t, tree, was, 4, was)

		tree = lineOf(0, 1, 2, 3, 4)
		tree[3].Just.Block = nowhere
		holdThree(t, tree, 4, 0, false)
		want := was
		want.High, want.Lock = tree[4].Just, tree[3].Just
		holdLearn(t, tree, was, 4, want)

		tree = lineOf(0, 1, 2, 3, 4)
		tree[2].Just.Block = nowhere
		holdThree(t, tree, 4, 0, false)
		want = plainTooEarly(tree, was, 2)
		want.High, want.Lock = tree[4].Just, tree[3].Just
		if len(want.Early) != 2 {
			t.Fatalf("nothing is early: %+v", want)
		}
		holdLearn(t, tree, was, 4, want)

		tree = lineOf(0, 1, 2, 3, 4)
		tree[1].Just.Block = nowhere
		holdThree(t, tree, 4, 1, true)
		holdThree(t, tree, 3, 0, false)
	}
}

// A replica stays as it is at a block whose Just is of no block, whatever that Just's View is, wherever the block stands, and whatever the replica has.
func TestChainLearnOfNoSuchBlock(t *testing.T) {
	line := lineOf(0, 1, 2, 3, 4)
	low := impl.Peer{Id: 3, View: 2, High: impl.Qc{View: math.MinInt}, Lock: impl.Qc{View: math.MinInt}}
	for _, p := range []impl.Peer{impl.PeerNew(0), low, atRow(line, 1, 3), inView(2, 6), {}} {
		for k := range line {
			for _, nowhere := range []int{len(line), len(line) + 1, 9, -1, -2, math.MaxInt, math.MinInt} {
				for _, view := range []int{math.MinInt, -1, 0, 1, 3, impl.MaxView, math.MaxInt} {
					tree := lineOf(0, 1, 2, 3, 4)
					tree[k].Just = impl.Qc{Phase: impl.PhChain, View: view, Block: nowhere, Signers: 7}
					holdLearn(t, tree, p, k, p)
					holdThree(t, tree, k, 0, false)
				}
			}
		}
	}
	// At the edge: the tree's last block is there, also when it is k itself; one behind it is not.
	tree := []impl.Block{first(), {View: 1, Just: impl.Qc{Phase: impl.PhChain, View: 3, Block: 1, Signers: 7}}}
	holdLearn(t, tree, impl.PeerNew(0), 1, impl.Peer{View: 1, High: tree[1].Just, Lock: tree[1].Just})
	tree[1].Just.Block = 2
	holdLearn(t, tree, impl.PeerNew(0), 1, impl.PeerNew(0))
	tree[1].Just.Block = 0
	holdLearn(t, tree, impl.PeerNew(0), 1, impl.Peer{View: 1, High: tree[1].Just})
}

// High and Lock are held by Views alone: below, at and above.
func TestChainLearnHighAndLock(t *testing.T) {
	tree := chainTree(4)
	views := []int{math.MinInt, -1, 0, 1, 2, 3, 4, 5, 7, 8, impl.MaxView, math.MaxInt}
	for k := range tree {
		just := tree[k].Just
		under := tree[just.Block].Just
		for _, high := range views {
			for _, lock := range views {
				p := atRow(tree, 0, 0)
				p.High, p.Lock = impl.Qc{Phase: 1, View: high, Block: 17, Signers: 9}, impl.Qc{Phase: 2, View: lock, Block: 23, Signers: 9}
				want := p
				if high < just.View {
					want.High = just
				}
				if lock < under.View {
					want.Lock = under
				}
				got := impl.ChainLearn(tree, p, k)
				if got.High != want.High || got.Lock != want.Lock {
					t.Fatalf("ChainLearn of %d with High %d and Lock %d has %+v and %+v", k, high, lock, got.High, got.Lock)
				}
				// Nothing else hangs on them.
				other := impl.ChainLearn(tree, atRow(tree, 0, 0), k)
				other.High, other.Lock = want.High, want.Lock
				if !samePeer(got, other) {
					t.Fatalf("ChainLearn of %d = %+v, want %+v", k, got, other)
				}
			}
		}
	}
	// Of block 4: its Just is of block 3, whose Just is of block 2.
	got := impl.ChainLearn(tree, impl.PeerNew(2), 4)
	if got.High != signedQc(tree, 4, impl.PhChain, 3) || got.Lock != signedQc(tree, 4, impl.PhChain, 2) {
		t.Errorf("High %+v, Lock %+v", got.High, got.Lock)
	}
}

func TestChainLearnOfNoBlock(t *testing.T) {
	tree := chainTree(4)
	p := inView(2, 6)
	p.High, p.Lock = impl.Qc{View: -4, Block: 9}, impl.Qc{View: math.MinInt}
	for _, k := range []int{math.MinInt, -2, -1, len(tree), len(tree) + 1, math.MaxInt} {
		holdLearn(t, tree, p, k, p)
	}
	for _, k := range []int{math.MinInt, -1, 0, 1, math.MaxInt} {
		holdLearn(t, nil, p, k, p)
		holdLearn(t, nil, impl.Peer{}, k, impl.Peer{})
	}
	// The first block, and those on it, tell of a Qc of nothing, which is above one of a View below 0 alone.
	for _, k := range []int{0, 1, 15} {
		want := p
		want.High, want.Lock = impl.Qc{}, impl.Qc{}
		holdLearn(t, tree, p, k, want)
		want.High, want.Lock = impl.Qc{Block: 5}, impl.Qc{Phase: 2}
		holdLearn(t, tree, want, k, want)
	}
	// A first block that is not right tells of its Just, too.
	wrong := copyTree(tree)
	wrong[0].Just = impl.Qc{Phase: 4, View: 8, Block: 7, Signers: 15}
	want := p
	want.High, want.Lock = wrong[0].Just, wrong[7].Just
	holdThree(t, wrong, 0, 0, false)
	holdLearn(t, wrong, p, 0, plainTooEarly(tree, want, 6))
	// As b it is in no row, though its View is just one above that of the block that its Just is of.
	wrong[0].View = 9
	want = p
	want.High, want.Lock = impl.Qc{}, wrong[0].Just
	holdThree(t, wrong, 1, 0, false)
	holdLearn(t, wrong, p, 1, want)
	// Nor as c.
	wrong[7].Just.Block, wrong[0].View = 0, 7
	holdThree(t, wrong, 8, 0, false)
	want.High, want.Lock = wrong[8].Just, wrong[7].Just
	holdLearn(t, wrong, p, 8, want)
}

func TestChainLearnLetsThrough(t *testing.T) {
	tree := chainTree(4)
	upTo := func(k int) []int { return plainRowTo(tree, k) }
	for _, c := range []struct {
		what  string
		k     int
		last  int
		early int
		row   []int
		soon  []int
	}{
		{"the first three", 4, 0, 0, []int{1}, []int{2}},
		{"what is early stays so, or goes through", 4, 0, 2, []int{1}, []int{2}},
		{"more is early", 4, 0, 5, []int{1}, []int{2}},
		{"what is early clashes", 4, 0, 16, []int{1}, []int{2}},
		{"the next three", 5, 1, 2, []int{1, 2}, []int{3}},
		{"a View is left out above b", 6, 2, 3, []int{1, 2, 3}, []int{4}},
		{"several at once", 6, 0, 0, []int{1, 2, 3}, []int{4}},
		{"several at once, more is early", 6, 1, 5, []int{1, 2, 3}, []int{4}},
		{"a View is left out between b and c", 7, 3, 4, []int{1, 2, 3}, []int{4}},
		{"a View is left out between b and c, nothing is early", 7, 3, 3, []int{1, 2, 3}, nil},
		{"a View is left out between b and c, what is early clashes", 7, 1, 13, []int{1}, []int{2, 11, 12, 13}},
		{"a View is left out between c and d", 8, 3, 4, []int{1, 2, 3}, []int{4, 5, 6}},
		{"a View is left out between c and d, more is early", 8, 3, 10, []int{1, 2, 3}, []int{4, 5, 6}},
		{"a View is left out between c and d, what is early clashes", 8, 0, 18, nil, []int{1, 2, 3, 4, 5, 6}},
		{"a View is left out below d", 9, 3, 6, []int{1, 2, 3, 4, 5, 6}, []int{7}},
		{"a View is left out below what goes through", 10, 3, 6, []int{1, 2, 3, 4, 5, 6, 7}, []int{8}},
		{"d is the first block", 3, 0, 0, nil, []int{1}},
		{"d is the first block, more is early", 3, 0, 12, nil, []int{1}},
		{"d is the first block, what is early clashes", 3, 0, 17, nil, []int{1}},
		{"d is the first block, and c in Row", 3, 1, 2, []int{1}, nil},
		{"d is the first block, and c clashes", 3, 15, 17, []int{15}, nil},
		{"d is the first block, of a branch", 11, 0, 0, nil, []int{1}},
		{"c is the first block", 2, 0, 1, nil, []int{1}},
		{"c is the first block, behind a Row", 2, 2, 4, []int{1, 2}, []int{3, 4}},
		{"b is the first block", 1, 0, 1, nil, []int{1}},
		{"it is the first block", 0, 0, 13, nil, []int{1, 2, 11, 12, 13}},
		{"d is Row's last one", 4, 1, 2, []int{1}, []int{2}},
		{"d is Row's last one, more is early", 4, 1, 4, []int{1}, []int{2}},
		{"d is in Row, and so is c", 4, 3, 4, []int{1, 2, 3}, nil},
		{"d is in Row, and c is its last one", 4, 2, 5, []int{1, 2}, nil},
		{"d is in Row, and c clashes", 5, 11, 12, []int{1, 2, 11}, nil},
		{"d is in Row, far below", 4, 10, 19, upTo(10), nil},
		{"d clashes with Row", 14, 3, 4, []int{1, 2, 3}, nil},
		{"d of a branch", 14, 2, 3, []int{1, 2, 11}, []int{12}},
		{"d of a branch, from the first block on", 14, 0, 16, []int{1, 2, 11}, []int{12}},
		{"c of a branch", 13, 2, 4, []int{1, 2}, []int{11}},
		{"c of a branch clashes with Row", 13, 3, 4, []int{1, 2, 3}, nil},
		{"Views are left out between b and c of a branch", 12, 2, 4, []int{1, 2}, []int{3, 4}},
		{"View 1 is left out", 17, 0, 1, nil, []int{15}},
		{"View 1 is left out, and c is the first block", 16, 0, 1, nil, []int{1}},
		{"View 1 is left out below d", 18, 0, 1, []int{15}, []int{16}},
		{"View 1 is left out below d, which clashes", 18, 1, 2, []int{1}, nil},
		{"many Views are left out above b", 19, 6, 8, upTo(8), []int{9}},
		{"many Views are left out between b and c", 20, 8, 9, upTo(8), []int{9}},
		{"many Views are left out between c and d", 21, 8, 9, upTo(8), []int{9, 10, 19}},
		{"at MaxView", 22, 8, 10, upTo(19), []int{20}},
		{"at MaxView, from the first block on", 22, 0, 0, upTo(19), []int{20}},
		{"at MaxView, only two", 23, 8, 10, upTo(8), []int{9, 10, 19}},
	} {
		t.Run(c.what, func(t *testing.T) {
			p := atRow(tree, c.last, c.early)
			got := impl.ChainLearn(tree, p, c.k)
			if !slices.Equal(got.Row, c.row) || !slices.Equal(got.Early, c.soon) {
				t.Fatalf("Row %v, Early %v, want %v, %v", got.Row, got.Early, c.row, c.soon)
			}
			holdAccounts(t, tree, got)
			// Its View and what it said and heard stay.
			if got.Id != p.Id || got.View != p.View || got.Last != p.Last || !slices.Equal(got.Votes, p.Votes) || !slices.Equal(got.News, p.News) || got.Shown != p.Shown {
				t.Fatalf("%+v is %+v", p, got)
			}
			if d, three := impl.ThreeRow(tree, c.k); three && plainExtends(tree, d, c.last) && plainLast(got.Row) != d {
				t.Fatalf("%d is not the last of %v", d, got.Row)
			}
			// The same once more tells nothing new.
			holdLearn(t, tree, got, c.k, got)
		})
	}
}

// holdAccounts: accounts are what Row and Early make, and without what is early what Row makes.
func holdAccounts(t *testing.T, tree []impl.Block, p impl.Peer) {
	t.Helper()
	if !slices.Equal(p.Cells, plainRowCells(tree, slices.Concat(p.Row, p.Early))) || !slices.Equal(impl.UndoneAll(p.Cells, p.Undos), plainRowCells(tree, p.Row)) {
		t.Fatalf("accounts of %+v are not what Row and Early make", p)
	}
}

func TestLearnByTheWords(t *testing.T) {
	through, early, stayed := 0, 0, 0
	trees := slices.Concat(justTrees(), cmdTrees(), wrongTrees()[:12], brokenTrees()[:12], wildTrees()[200:206], [][]impl.Block{chainTree(4), askTree(4), hollowTree(), overTree(4), wildBlocks()[:12], lineOf(0, 1, 2, 3, 4, 5, 6), {}, {{}, {}, {}}})
	trees = slices.DeleteFunc(trees, func(tree []impl.Block) bool { return len(tree) > 25 })
	for i, tree := range trees {
		peers := madeUp(tree)
		for _, last := range []int{0, 1, 3} {
			peers = append(peers, atRow(tree, last, last+1), atRow(tree, last, 6))
		}
		for j, p := range peers {
			if j%3 != i%3 && j < len(peers)-6 {
				continue
			}
			for _, k := range askedPlaces(tree) {
				want := plainLearn(tree, p, k)
				holdLearn(t, tree, p, k, want)
				_, _, d, three := plainRows(tree, k)
				holdThree(t, tree, k, d, three)
				switch {
				case len(want.Row) > len(p.Row):
					through++
				case !slices.Equal(want.Early, p.Early):
					early++
				default:
					stayed++
				}
			}
		}
	}
	if through < 500 || early < 500 || stayed < 500 {
		t.Errorf("only %d go through, %d are early, %d stay", through, early, stayed)
	}
}

func TestChainedBlocksAreHeard(t *testing.T) {
	const n = 4
	tree := chainTree(n)
	lockOn := func(k int) impl.Qc { return signedQc(tree, n, impl.PhChain, k) }
	gave := func(phase int, view int) impl.Vote { return impl.Vote{Phase: phase, View: view, Block: 1, By: 2} }
	for _, c := range []struct {
		what  string
		k     int
		view  int
		lock  impl.Qc
		last  impl.Vote
		votes bool
		next  int
		to    int
	}{
		{what: "at its View", k: 4, view: 4, votes: true, next: 5, to: 1},
		{what: "one above", k: 4, view: 3, votes: true, next: 5, to: 1},
		{what: "far above", k: 4, view: 1, votes: true, next: 5, to: 1},
		{what: "of View 1", k: 1, view: 1, votes: true, next: 2, to: 0},
		{what: "another one leads the next View", k: 3, view: 3, votes: true, next: 4, to: 1},
		{what: "another one leads the next View, which is its own", k: 6, view: 7, votes: true, next: 8, to: 2},
		{what: "it leads the View, and the next one", k: 7, view: 8, votes: true, next: 9, to: 2},
		{what: "it leads the View, and the next one, another leader's", k: 10, view: 11, votes: true, next: 12, to: 3},
		{what: "one below", k: 4, view: 5},
		{what: "far below", k: 4, view: impl.MaxView},
		{what: "below a View above MaxView", k: 22, view: impl.MaxView + 1},
		{what: "below the greatest number", k: 22, view: math.MaxInt},
		{what: "above a View of 0", k: 1, view: 0, votes: true, next: 2, to: 0},
		{what: "above the least number", k: 1, view: math.MinInt, votes: true, next: 2, to: 0},
		{what: "below MaxView", k: 21, view: impl.MaxView - 1, votes: true, next: impl.MaxView, to: 1},
		{what: "below MaxView, far above", k: 21, view: 9, votes: true, next: impl.MaxView, to: 1},
		{what: "one below, at MaxView", k: 21, view: impl.MaxView},
		// Behind MaxView there is no View that could be Entered: it stays in its own.
		{what: "at MaxView", k: 22, view: impl.MaxView, votes: true, next: impl.MaxView, to: 1},
		{what: "one above, at MaxView", k: 22, view: impl.MaxView - 1, votes: true, next: impl.MaxView - 1, to: 1},
		{what: "far above, at MaxView", k: 22, view: 7, votes: true, next: 7, to: 1},
		{what: "two in a row alone, at MaxView", k: 23, view: impl.MaxView, votes: true, next: impl.MaxView, to: 1},

		{what: "it is the lock's Block", k: 4, view: 4, lock: lockOn(4), votes: true, next: 5, to: 1},
		{what: "on the lock's Block", k: 4, view: 4, lock: lockOn(3), votes: true, next: 5, to: 1},
		{what: "far above the lock's Block", k: 10, view: 9, lock: lockOn(1), votes: true, next: 12, to: 3},
		{what: "it clashes, its Just above the lock", k: 13, view: 8, lock: lockOn(5), votes: true, next: 9, to: 2},
		{what: "it clashes, its Just at the lock", k: 13, view: 8, lock: lockOn(6)},
		{what: "it clashes, its Just below the lock", k: 13, view: 8, lock: lockOn(7)},
		{what: "it clashes, above its View", k: 13, view: 3, lock: lockOn(7)},
		{what: "it clashes, below its View", k: 13, view: 9, lock: lockOn(5)},
		{what: "it has no Just, and a lock is there", k: 15, view: 1, lock: lockOn(1)},
		{what: "it has no Just, and no lock is there", k: 15, view: 1, votes: true, next: 3, to: 0},
		{what: "below the lock's Block", k: 4, view: 4, lock: lockOn(9)},
		{what: "a lock of a View below 0", k: 15, view: 2, lock: impl.Qc{View: -1, Block: 3}, votes: true, next: 3, to: 0},

		{what: "after a vote of a View below", k: 4, view: 4, last: gave(impl.PhChain, 3), votes: true, next: 5, to: 1},
		{what: "after a vote of this View", k: 4, view: 4, last: gave(impl.PhChain, 4)},
		{what: "after a vote of this View, which it has not entered", k: 4, view: 3, last: gave(impl.PhChain, 4)},
		{what: "after a vote of this View, of the other way", k: 4, view: 4, last: gave(impl.PhThree, 4), votes: true, next: 5, to: 1},
		{what: "after a vote of this View, of a Phase above", k: 4, view: 4, last: gave(5, 4)},
		{what: "after a vote of a View above", k: 4, view: 3, last: gave(impl.PhChain, 5)},
		{what: "after a vote of a View above, of the other way", k: 4, view: 3, last: gave(impl.PhOne, 5)},
		{what: "after a vote of MaxView", k: 22, view: impl.MaxView, last: gave(impl.PhChain, impl.MaxView)},
		{what: "neither safe, nor may it vote", k: 13, view: 8, lock: lockOn(7), last: gave(impl.PhChain, 8)},
		{what: "neither safe, nor may it vote, nor is it in time", k: 13, view: 9, lock: lockOn(7), last: gave(impl.PhChain, 8)},
	} {
		p := atRow(tree, 1, 3)
		p.View, p.High, p.Lock, p.Last = c.view, signedQc(tree, n, impl.PhChain, 2), c.lock, c.last
		l := shownTo(tree, n, c.k, 2)
		// What the block tells is learnt, be it voted for or not.
		want := plainLearn(tree, p, c.k)
		var said []impl.Letter
		if c.votes {
			want.Last = impl.Vote{Phase: impl.PhChain, View: l.View, Block: c.k, By: 2}
			if want.View = c.next; c.next != c.view {
				want.Votes, want.News = nil, nil
			}
			said = []impl.Letter{{Kind: impl.LtVote, From: 2, To: c.to, View: l.View, Vote: want.Last}}
		}
		t.Run(c.what, func(t *testing.T) {
			holdChain(t, tree, n, p, l, want, said...)
			// Neither one who does not lead that View is heard, nor is a letter to another one.
			for from := range n {
				other := l
				if other.From = from; from != l.From {
					holdChain(t, tree, n, p, other, p)
				}
				other = l
				if other.To = from; from != 2 {
					holdChain(t, tree, n, p, other, p)
				}
			}
			// The same letter again tells nothing new.
			holdChain(t, tree, n, want, l, want)
		})
	}
}

// Whether a block is safe is asked ahead of learning: in trees that are not right a block may tell of a lock that it is not safe for, or first be so by it.
func TestChainedBlocksAreAskedAheadOfLearning(t *testing.T) {
	const n = 4
	tree := chainTree(n)
	l := shownTo(tree, n, 5, 2)
	p := impl.Peer{Id: 2, View: 5, Lock: signedQc(tree, n, impl.PhChain, 3)}
	// Block 4's Just is of a View far above, and of a block that clashes.
	tree[4].Just = impl.Qc{Phase: impl.PhChain, View: 50, Block: 13, Signers: 15}
	if !plainLetterOk(tree, n, l) || !plainSafeBlock(tree, p.Lock, 5) || plainSafeBlock(tree, tree[4].Just, 5) {
		t.Fatal("it is not as it should be")
	}
	v := impl.Vote{Phase: impl.PhChain, View: 5, Block: 5, By: 2}
	holdChain(t, tree, n, p, l, impl.Peer{Id: 2, View: 6, High: tree[5].Just, Lock: tree[4].Just, Last: v}, impl.Letter{Kind: impl.LtVote, From: 2, To: 1, View: 5, Vote: v})
	// Of a View far above, and of a block that it stands on.
	tree[4].Just.Block = 1
	p.Lock = signedQc(tree, n, impl.PhChain, 13)
	if !plainLetterOk(tree, n, l) || plainSafeBlock(tree, p.Lock, 5) || !plainSafeBlock(tree, tree[4].Just, 5) {
		t.Fatal("it is not as it should be")
	}
	holdChain(t, tree, n, p, l, impl.Peer{Id: 2, View: 5, High: tree[5].Just, Lock: tree[4].Just})
}

// One vote in each View, whatever is shown: the same block again, or another one of that View.
func TestChainedTwice(t *testing.T) {
	for n := 1; n <= impl.MaxPeers; n++ {
		tree := chainTree(n)
		for k := 1; k < len(tree); k++ {
			l := shownTo(tree, n, k, n-1)
			p, out := impl.ChainHear(tree, n, impl.PeerNew(n-1), l)
			if len(out) != 1 || out[0].Kind != impl.LtVote || p.Last != out[0].Vote || out[0].Vote.Phase != impl.PhChain || out[0].To != plainLeader(l.View+1, n) || !plainLetterOk(tree, n, out[0]) {
				t.Fatalf("ChainHear of %+v = %+v, %+v", l, p, out)
			}
			holdChain(t, tree, n, p, l, p)
			for other := 1; other < len(tree); other++ {
				if tree[other].View <= l.View {
					holdChain(t, tree, n, p, shownTo(tree, n, other, n-1), plainLearn(tree, p, other))
				}
			}
		}
	}
}

// chainedHearers are replicas in Views about one, with votes and News of that View.
func chainedHearers(id int, view int) []impl.Peer {
	var out []impl.Peer
	for _, in := range []int{math.MinInt, 0, view - 2, view - 1, view, view + 1, view + 2, impl.MaxView, impl.MaxView + 1, math.MaxInt} {
		p := inView(id, in)
		p.High = impl.Qc{View: -1}
		p.News = []impl.Letter{newsTo(0, id, in, impl.Qc{})}
		few := p
		few.Votes, few.News = nil, nil
		out = append(out, p, few)
	}
	return out
}

// Votes are for the leader: LeadHear makes the same of them, of each Phase.
func TestChainedVotesAreForTheLeader(t *testing.T) {
	taken, said := 0, 0
	for n := 1; n <= impl.MaxPeers; n++ {
		tree := chainTree(n)
		for k := 1; k < len(tree); k++ {
			for id := range n {
				for _, p := range chainedHearers(id, tree[k].View) {
					for phase := impl.PhOne; phase <= impl.PhChain; phase++ {
						l := votedTo(tree, phase, k, n-1, id)
						// One more is enough.
						enough := p
						enough.Votes = slices.Concat(p.Votes, votesOf(phase, tree[k].View, k, 1<<(plainQuorum(n)-1)-1))
						for _, p := range []impl.Peer{p, enough} {
							want, out := plainLead(tree, n, p, l)
							holdChain(t, tree, n, p, l, want, out...)
							if len(want.Votes) > len(p.Votes) {
								taken++
							}
							if len(out) > 0 {
								said++
							}
						}
					}
				}
			}
		}
	}
	if taken < 1000 || said < 100 {
		t.Errorf("only %d votes are taken, %d Qcs are said", taken, said)
	}
	// By hand: three of four votes of a View, to the one who leads the next one.
	tree := chainTree(4)
	p := impl.PeerNew(1)
	p.View = 3
	for by := range 3 {
		var out []impl.Letter
		p, out = impl.ChainHear(tree, 4, p, votedTo(tree, impl.PhChain, 3, by, 1))
		if len(out) != 0 {
			t.Fatalf("%v is said", out)
		}
	}
	if want := (impl.Qc{Phase: impl.PhChain, View: 3, Block: 3, Signers: 7}); p.High != want || p.View != 4 || len(p.Votes) != 3 {
		t.Errorf("three votes make %+v", p)
	}
	// And of the other way: its own View's Qc is told to each.
	p = impl.PeerNew(1)
	p.View, p.Votes = 4, votesOf(impl.PhTwo, 4, 4, 3)
	want := p
	want.Votes = votesOf(impl.PhTwo, 4, 4, 11)
	holdChain(t, tree, 4, p, votedTo(tree, impl.PhTwo, 4, 3, 1), want, saidToEach(4, 1, 4, impl.Qc{Phase: impl.PhTwo, View: 4, Block: 4, Signers: 11})...)
}

// What an LtView tells is High, when that is below, whoever leads; the rest is for the leader.
func TestChainedNews(t *testing.T) {
	heard, alone := 0, 0
	for n := 1; n <= impl.MaxPeers; n++ {
		tree := chainTree(n)
		for _, view := range []int{1, 2, 4, 5, 8, 9, 12, 28, impl.MaxView - 1, impl.MaxView} {
			qcs := []impl.Qc{{}}
			for k := 1; k < len(tree); k++ {
				if tree[k].View < view {
					qcs = append(qcs, signedQc(tree, n, 1+k%4, k))
				}
			}
			for id := range n {
				for _, q := range qcs {
					for _, p := range chainedHearers(id, view) {
						for _, high := range []int{math.MinInt, -1, q.View - 1, q.View, q.View + 1, math.MaxInt} {
							p.High = impl.Qc{Phase: 3, View: high, Block: 77, Signers: 5}
							for _, from := range []int{0, n - 1} {
								l := newsTo(from, id, view, q)
								want, _ := plainLead(tree, n, p, l)
								if !samePeer(want, p) {
									heard++
								} else if high < q.View {
									alone++
								}
								if high < q.View {
									want.High = q
								}
								holdChain(t, tree, n, p, l, want)
							}
						}
					}
				}
			}
		}
	}
	if heard < 1000 || alone < 1000 {
		t.Errorf("only %d are heard as a leader, %d tell of a Qc alone", heard, alone)
	}
}

// By hand: News of one who wrote before, of Views that it does not lead, and of such as are past.
func TestChainedNewsByHand(t *testing.T) {
	const n = 4
	tree := chainTree(n)
	low, high := signedQc(tree, n, impl.PhChain, 3), signedQc(tree, n, impl.PhChain, 6)
	p := impl.Peer{Id: 2, View: 8, High: signedQc(tree, n, impl.PhChain, 5), News: []impl.Letter{newsTo(3, 2, 8, impl.Qc{})}}
	more := func(l impl.Letter) impl.Peer {
		p := p
		p.News = append(slices.Clone(p.News), l)
		return p
	}
	told := func(p impl.Peer) impl.Peer {
		p.High = high
		return p
	}
	first, again := newsTo(0, 2, 8, high), newsTo(3, 2, 8, high)
	holdChain(t, tree, n, p, first, told(more(first)))
	holdChain(t, tree, n, p, again, told(p))
	first.Qc, again.Qc = low, low
	holdChain(t, tree, n, p, first, more(first))
	holdChain(t, tree, n, p, again, p)
	first.Qc = p.High
	holdChain(t, tree, n, p, first, more(first))
	// The next View begins with what was heard for it alone.
	next := newsTo(3, 2, 9, high)
	holdChain(t, tree, n, p, next, impl.Peer{Id: 2, View: 9, High: high, News: []impl.Letter{next}})
	// Neither past Views, nor far ones, nor those of others: the Qc is heard all the same.
	for _, view := range []int{10, 12, 16, 24, 40, impl.MaxView} {
		holdChain(t, tree, n, p, newsTo(1, 2, view, high), told(p))
		holdChain(t, tree, n, p, newsTo(1, 2, view, low), p)
	}
	far := impl.Peer{Id: 2, View: impl.MaxView, High: p.High}
	holdChain(t, tree, n, far, newsTo(1, 2, 8, high), told(far))
	// To another one, or with a Qc that is not right, or not below its View, nothing is heard.
	for _, q := range []impl.Qc{{Phase: impl.PhChain, View: 7, Block: 6, Signers: 3}, {Phase: 5, View: 7, Block: 6, Signers: 15}, {Phase: impl.PhChain, View: 8, Block: 6, Signers: 15}, {Phase: impl.PhChain, View: 8, Block: 7, Signers: 15}, {Phase: impl.PhChain, View: 7, Block: 6, Signers: 31}} {
		holdChain(t, tree, n, p, newsTo(1, 2, 8, q), p)
	}
	holdChain(t, tree, n, p, newsTo(1, 3, 8, high), p)
	holdChain(t, tree, n, p, newsTo(4, 2, 8, high), p)
}

// When each block is asked for once, a Qc alone is nothing.
func TestChainedQcsAreNothing(t *testing.T) {
	for n := 1; n <= impl.MaxPeers; n++ {
		tree := chainTree(n)
		for k := 1; k < len(tree); k++ {
			for phase := impl.PhOne; phase <= impl.PhChain; phase++ {
				for id := range n {
					l := enoughTo(tree, n, phase, k, id)
					if !plainLetterOk(tree, n, l) {
						t.Fatalf("%+v is not right", l)
					}
					for _, p := range chainedHearers(id, l.View) {
						holdChain(t, tree, n, p, l, p)
					}
				}
			}
		}
	}
}

// Each letter that is one number away from a right one is heard as it says, or, when it is not right any more, not at all.
func TestChainedLettersThatAreNotRight(t *testing.T) {
	const n = 4
	tree := chainTree(n)
	heard, refused := 0, 0
	for _, right := range []impl.Letter{
		shownTo(tree, n, 4, 2), shownTo(tree, n, 7, 2), shownTo(tree, n, 22, 2), enoughTo(tree, n, impl.PhChain, 4, 2), votedTo(tree, impl.PhOne, 7, 3, 2), votedTo(tree, impl.PhChain, 7, 3, 2), votedTo(tree, impl.PhChain, 6, 3, 2),
		newsTo(3, 2, 8, impl.Qc{}), newsTo(3, 2, 8, signedQc(tree, n, impl.PhChain, 4)),
	} {
		for _, view := range []int{1, 3, 4, 7, 8, impl.MaxView} {
			p := inView(2, view)
			for _, l := range append(turnedLetters(right), right) {
				want, said := plainChain(tree, n, p, l)
				holdChain(t, tree, n, p, l, want, said...)
				switch {
				case !plainLetterOk(tree, n, l):
					refused++
					holdChain(t, tree, n, p, l, p)
				case !samePeer(want, p):
					heard++
				}
			}
		}
	}
	for _, l := range wildLetters() {
		for _, p := range []impl.Peer{inView(0, 1), inView(2, 4), inView(l.To, l.View), inView(l.To, 1)} {
			if !plainLetterOk(tree, n, l) {
				refused++
				holdChain(t, tree, n, p, l, p)
			}
		}
	}
	if heard < 25 || refused < 5000 {
		t.Errorf("only %d are heard, and %d are not right", heard, refused)
	}
}

// A View of a letter above MaxView is never heard, though the tree has such a block.
func TestChainedAboveMaxView(t *testing.T) {
	for n := 1; n <= impl.MaxPeers; n++ {
		tree := overTree(n)
		for k := 2; k < len(tree); k++ {
			for _, view := range []int{1, impl.MaxView, impl.MaxView + 1, tree[k].View - 1, tree[k].View} {
				for id := range n {
					p := inView(id, view)
					holdChain(t, tree, n, p, shownTo(tree, n, k, id), p)
					holdChain(t, tree, n, p, newsTo(0, id, tree[k].View, tree[1].Just), p)
					for phase := impl.PhOne; phase <= impl.PhChain; phase++ {
						holdChain(t, tree, n, p, votedTo(tree, phase, k, 0, id), p)
					}
				}
			}
		}
	}
}

// How many there are is asked of what is signed alone: a block on the first one, and an LtView of nothing, may come among any number of them.
func TestChainedAmongMany(t *testing.T) {
	tree := chainTree(1)
	for _, n := range somePeers() {
		for _, id := range []int{0, n - 1, n, -1} {
			p := inView(id, 1)
			p.High, p.Lock = impl.Qc{View: -2}, impl.Qc{View: -1}
			l := shownTo(tree, n, 1, id)
			news := newsTo(n-1, id, 1, impl.Qc{})
			if n < 1 || id < 0 || id >= n {
				holdChain(t, tree, n, p, l, p)
				holdChain(t, tree, n, p, news, p)
				continue
			}
			v := impl.Vote{Phase: impl.PhChain, View: 1, Block: 1, By: id}
			want := begun(p, 2)
			want.Last, want.High, want.Lock = v, impl.Qc{}, impl.Qc{}
			holdChain(t, tree, n, p, l, want, impl.Letter{Kind: impl.LtVote, From: id, To: 0, View: 1, Vote: v})
			want = p
			want.High = impl.Qc{}
			if id == 0 && n > 2 {
				want.News = append(slices.Clone(p.News), news)
			}
			holdChain(t, tree, n, p, news, want)
			// What is signed is right up to MaxPeers.
			if n > impl.MaxPeers {
				for phase := impl.PhOne; phase <= impl.PhChain; phase++ {
					holdChain(t, tree, n, p, votedTo(tree, phase, 1, 0, id), p)
				}
				holdChain(t, tree, n, p, shownTo(tree, n, 2, id), p)
				holdChain(t, tree, n, p, newsTo(0, id, 2, signedQc(tree, 7, impl.PhChain, 1)), p)
			}
		}
	}
}

func TestChainHearByTheWords(t *testing.T) {
	draw := drawn(23)
	counts := map[string]int{"as it is": 0, "one vote": 0, "High": 0, "Lock": 0, "through": 0, "the Qc to each": 0, "a vote taken": 0, "News": 0}
	for _, n := range []int{0, 1, 2, 3, 4, 7, 8} {
		trees := [][]impl.Block{chainTree(max(n, 1)), letterTree(max(n, 1)), hollowTree(), overTree(max(n, 1)), lineOf(0, 1, 2, 3, 4), nil}
		trees = append(trees, justTrees()[n:n+4]...)
		for _, tree := range trees {
			for _, l := range allKinds(tree, n) {
				for _, p := range heardPeers(tree, n, l, draw) {
					want, said := plainChain(tree, n, p, l)
					holdChain(t, tree, n, p, l, want, said...)
					counts[outcome(p, want, said)]++
				}
			}
		}
	}
	for what, count := range counts {
		if count < 200 {
			t.Errorf("only %d are of this kind: %s", count, what)
		}
	}
}

// Trees, replicas and letters of which nothing is right.
func TestChainWrongInputs(t *testing.T) {
	letters := append(wildLetters(), impl.Letter{}, newsTo(0, 0, 1, impl.Qc{}), impl.Letter{Kind: impl.LtBlock, View: 1, Block: 1})
	peers := append(wildPeers()[:40], impl.Peer{}, wildPeers()[len(wildPeers())-1])
	for i, tree := range [][]impl.Block{nil, {}, wrongTrees()[3], brokenTrees()[5], justTrees()[3], {{}, {}, {}}, {{View: 4}, {Parent: 9, View: 4, Just: impl.Qc{View: 4}}}, wildBlocks()[:20]} {
		for j, n := range somePeers() {
			for k, l := range letters {
				for m := range 3 {
					p := peers[(i+j*3+k*5+m*7)%len(peers)]
					if m == 0 {
						p.Id = l.To
					}
					want, said := plainChain(tree, n, p, l)
					holdChain(t, tree, n, p, l, want, said...)
				}
			}
		}
		for _, p := range peers {
			for _, k := range append(askedPlaces(tree), fieldNumbers()...) {
				holdLearn(t, tree, p, k, plainLearn(tree, p, k))
			}
		}
	}
}

// Justs of every number, at k, b and c: none panics, and each is followed where it leads.
func TestChainJustsOfEveryNumber(t *testing.T) {
	for at := 1; at < 5; at++ {
		for _, num := range append(fieldNumbers(), 9, 10) {
			for _, view := range []int{math.MinInt, -1, 0, 3, impl.MaxView + 1, math.MaxInt} {
				tree := lineOf(0, 1, 2, 3, 4)
				tree[at].Just = impl.Qc{Phase: num, View: view, Block: num, Signers: num}
				for _, p := range []impl.Peer{impl.PeerNew(2), atRow(tree, 1, 2), atRow(tree, 0, 3), withTheRest(impl.Peer{Id: 2, High: impl.Qc{View: num}, Lock: impl.Qc{View: -num}})} {
					for k := range tree {
						holdLearn(t, tree, p, k, plainLearn(tree, p, k))
						want, said := plainChain(tree, 4, p, shownTo(tree, 4, k, 2))
						holdChain(t, tree, 4, p, shownTo(tree, 4, k, 2), want, said...)
					}
				}
			}
		}
	}
}

// Promise 12, of blocks in one row: each way to leave out Views between eight of them. What stands below three in a row is let through as soon as one more tells of it, and nothing else is.
func TestThreeInARowGoThrough(t *testing.T) {
	const n, blocks = 4, 8
	through, waits := 0, 0
	for left := range 1 << blocks {
		views := []int{0}
		for i := range blocks {
			views = append(views, views[i]+1+left>>i&1)
		}
		tree := lineOf(views...)
		if !plainTreeOk(tree) {
			t.Fatalf("%v is not right", views)
		}
		p := impl.PeerNew(3)
		last := 0
		for k := 1; k <= blocks; k++ {
			if k > 3 && views[k-1] == views[k-2]+1 && views[k-2] == views[k-3]+1 {
				last = k - 3
				through++
			} else if k > 3 {
				waits++
			}
			p, _ = impl.ChainHear(tree, n, p, shownTo(tree, n, k, 3))
			if !slices.Equal(p.Row, plainRowTo(tree, last)) {
				t.Fatalf("with the Views %v block %d lets %v through, not up to %d", views, k, p.Row, last)
			}
			holdAccounts(t, tree, p)
			if p.View != views[k]+1 || p.Last != (impl.Vote{Phase: impl.PhChain, View: views[k], Block: k, By: 3}) {
				t.Fatalf("with the Views %v it makes of block %d %+v", views, k, p)
			}
		}
	}
	if through < 100 || waits < 100 {
		t.Errorf("only %d go through, %d wait", through, waits)
	}
}

// holdChainPromise is promise 12, of one letter to a replica that was asked once all its life.
func holdChainPromise(t *testing.T, tree []impl.Block, n int, p impl.Peer, l impl.Letter, got impl.Peer, out []impl.Letter) {
	t.Helper()
	fault := func(what string) {
		t.Helper()
		t.Fatalf("%s: of %+v %s makes\n%s, %+v", what, l, brief(p), brief(got), out)
	}
	shown := l.To == p.Id && l.Kind == impl.LtBlock && plainLetterOk(tree, n, l) && l.From == plainLeader(l.View, n)
	votes := 0
	for _, o := range out {
		if o.From != p.Id {
			fault("it speaks for another one")
		}
		if o.Kind == impl.LtVote {
			votes++
		}
	}
	if votes == 0 && got.Last != p.Last {
		fault("it voted, and said nothing")
	}
	if votes > 1 || votes == 1 && len(out) != 1 {
		fault("it gave more than a vote")
	}
	if votes == 1 {
		v := out[0].Vote
		switch {
		case v != got.Last || v.By != p.Id || v.View != l.View || out[0].View != l.View || out[0].To != plainLeader(l.View+1, n):
			fault("the vote is not its own")
		case v.Phase != impl.PhChain || v.View <= p.Last.View || v.View < p.View:
			fault("the vote is not above all that it gave")
		case !shown || v.Block != l.Block || !plainSafeBlock(tree, p.Lock, v.Block):
			fault("the block is not safe")
		}
	}
	if got.View < p.View || got.High.View < p.High.View || got.Lock.View < p.Lock.View || got.High.View == p.High.View && got.High != p.High || got.Lock.View == p.Lock.View && got.Lock != p.Lock {
		fault("View, High or Lock falls")
	}
	row := p.Row
	if _, _, d, three := plainRows(tree, l.Block); shown && three && plainExtends(tree, d, plainLast(p.Row)) {
		row = plainRowTo(tree, d)
	}
	if !slices.Equal(got.Row, row) || !plainBeginning(p.Row, got.Row) || len(got.Row) < len(p.Row) || got.Id != p.Id || got.Shown != p.Shown {
		fault("not what three in a row stand on is let through")
	}
	if !shown && !slices.Equal(got.Early, p.Early) {
		fault("something is early without a block")
	}
	holdAccounts(t, tree, got)
	if plainSaidTwice(got.Votes) {
		fault("it took two votes of one")
	}
}

// Promise 12: letters come in a drawn order, twice and late, and some of them nobody would send.
func TestAReplicaThatIsAskedOnce(t *testing.T) {
	draw := drawn(19)
	voted, through, learnt := 0, 0, 0
	for n := 1; n <= impl.MaxPeers; n++ {
		tree := chainTree(n)
		letters := allKinds(tree, n)
		for k := 1; k < len(tree); k++ {
			for from := range n {
				letters = append(letters, votedTo(tree, impl.PhChain, k, from, plainLeader(tree[k].View+1, n)), newsTo(from, plainLeader(tree[k].View, n), tree[k].View, tree[k].Just))
			}
		}
		slices.SortStableFunc(letters, func(a, b impl.Letter) int { return a.View - b.View })
		for range 60 {
			id := draw(n)
			p := impl.PeerNew(id)
			var gave []impl.Vote
			for at := 0; at < len(letters); at += 1 + draw(4) {
				l := letters[max(0, at-draw(30)*draw(2))]
				if draw(8) > 0 {
					l.To = id
				}
				got, out := impl.ChainHear(tree, n, p, l)
				holdChainPromise(t, tree, n, p, l, got, out)
				if len(got.Row) > len(p.Row) {
					through++
				}
				if l.Kind == impl.LtBlock && len(out) == 0 && !samePeer(got, p) {
					learnt++
				}
				if len(out) > 0 && out[0].Kind == impl.LtVote {
					gave = append(gave, out[0].Vote)
					voted++
				}
				if p = got; draw(40) == 0 {
					p = impl.Fallen(tree, p)
				}
			}
			if plainSaidTwice(gave) {
				t.Fatalf("it says two things: %v", gave)
			}
		}
	}
	if voted < 1000 || through < 300 || learnt < 300 {
		t.Errorf("only %d votes are given, %d go through, %d are learnt of without a vote", voted, through, learnt)
	}
}

// chainHall is several replicas that are asked once, some of whom lie; what liars say is right, and tells of no vote that others did not give.
type chainHall struct {
	askHall
}

func newChainHall(n int, liars int, draw func(int) int) *chainHall {
	h := &chainHall{askHall{n: n, liars: liars, tree: impl.TreeNew(), draw: draw}}
	for id := range n {
		h.peers = append(h.peers, impl.PeerNew(id))
	}
	return h
}

func (h *chainHall) hears(t *testing.T, l impl.Letter) {
	p := h.peers[l.To]
	got, out := impl.ChainHear(h.tree, h.n, p, l)
	holdChainPromise(t, h.tree, h.n, p, l, got, out)
	for _, o := range out {
		if o.Kind == impl.LtVote {
			h.votes = append(h.votes, o.Vote)
		}
	}
	h.peers[l.To] = got
	h.pool = append(h.pool, out...)
}

// shows is what a leader does once it heard of enough others, or enough have voted for the View below.
func (h *chainHall) shows(id int) {
	p := h.peers[id]
	if plainLeader(p.View, h.n) != id || p.Shown >= p.View || p.View > 1 && len(p.News) < plainQuorum(h.n) && p.High.View != p.View-1 {
		return
	}
	best := p.High
	for _, l := range p.News {
		if l.Qc.View > best.View {
			best = l.Qc
		}
	}
	k := h.put(impl.Block{Parent: best.Block, View: p.View, Cmds: []impl.Cmd{set(string([]byte{byte('a' + h.draw(3))}), h.draw(100))}, Just: best})
	if k < 0 {
		return
	}
	h.peers[id].Shown, h.peers[id].High = p.View, best
	h.toEach(shownTo(h.tree, h.n, k, 0), 1)
}

// known are Qcs that liars can tell of: with votes that were given, and their own.
func (h *chainHall) known() []impl.Qc {
	out := []impl.Qc{{}}
	for k := 1; k < len(h.tree); k++ {
		q := impl.Qc{Phase: impl.PhChain, View: h.tree[k].View, Block: k, Signers: plainSigners(h.votes, impl.PhChain, h.tree[k].View, k) | (1<<h.liars - 1)}
		if plainCount(q.Signers) >= plainQuorum(h.n) {
			out = append(out, q)
		}
	}
	return out
}

// lie says something in the name of one that lies: blocks beside one another, votes for all of them, Qcs, old news.
func (h *chainHall) lie(top int) {
	id, known := h.draw(h.liars), h.known()
	q := known[len(known)-1-h.draw(min(len(known), 4))]
	switch h.draw(4) {
	case 0:
		view := top + h.draw(3)
		if h.draw(3) == 0 {
			view = q.View + 1
		}
		if plainLeader(view, h.n) != id {
			return
		}
		for range 2 {
			if k := h.put(impl.Block{Parent: q.Block, View: view, Cmds: []impl.Cmd{set("x", h.draw(50))}, Just: q}); k > 0 {
				h.toEach(shownTo(h.tree, h.n, k, 0), 2)
			}
		}
	case 1:
		k := h.draw(len(h.tree))
		h.toEach(votedTo(h.tree, impl.PhChain, k, id, 0), 2)
	case 2:
		if q.View > 0 {
			h.toEach(impl.Letter{Kind: impl.LtQc, From: id, View: q.View, Qc: q}, 2)
		}
	case 3:
		h.toEach(newsTo(id, 0, q.View+1+h.draw(4), q), 2)
	}
}

func (h *chainHall) step(t *testing.T) {
	top := 0
	for id := h.liars; id < h.n; id++ {
		h.shows(id)
		top = max(top, h.peers[id].View)
	}
	if h.liars > 0 && h.draw(4) == 0 {
		h.lie(top)
	}
	if len(h.pool) == 0 || h.draw(60) == 0 {
		for id := h.liars; id < h.n; id++ {
			if h.peers[id].View < top || h.draw(3) > 0 {
				h.goesOn(id)
			}
		}
		return
	}
	if id := h.liars + h.draw(h.n-h.liars); h.draw(80) == 0 {
		h.peers[id] = impl.Fallen(h.tree, h.peers[id])
	}
	at := h.draw(min(len(h.pool), 3*h.n))
	l := h.pool[at]
	if h.draw(10) > 0 {
		h.pool = slices.Delete(h.pool, at, at+1)
	}
	if !h.lies(l.To) && h.draw(25) > 0 {
		h.hears(t, l)
	}
}

// Promise 12, of all together: whoever lies, no two let through what clashes, and nobody says two things.
func TestAskedOnceRowsAgree(t *testing.T) {
	through, longest, skipped := 0, 0, 0
	for seed := range uint32(160) {
		n := []int{1, 4, 4, 5, 7, 7}[seed%6]
		liars := (n - 1) / 3
		if seed%4 == 3 {
			liars = 0
		}
		h := newChainHall(n, liars, drawn(seed*971))
		for range 700 {
			h.step(t)
		}
		if plainSaidTwice(h.votes) {
			t.Fatalf("seed %d: one said two things", seed)
		}
		for k := 1; k < len(h.tree); k++ {
			if h.tree[k].View > h.tree[h.tree[k].Parent].View+1 {
				skipped++
			}
		}
		for id := h.liars; id < n; id++ {
			row := h.peers[id].Row
			through, longest = through+len(row), max(longest, len(row))
			if !plainPeerOk(h.tree, n, h.peers[id]) {
				t.Fatalf("seed %d: %d is not right: %s", seed, id, brief(h.peers[id]))
			}
			for other := h.liars; other < n; other++ {
				if o := h.peers[other].Row; !plainBeginning(row, o) && !plainBeginning(o, row) {
					t.Fatalf("seed %d: %d has %v, %d has %v", seed, id, row, other, o)
				}
			}
		}
	}
	if through < 500 || longest < 5 || skipped < 100 {
		t.Errorf("only %d go through, %d in a row, %d leave Views out", through, longest, skipped)
	}
}

// When all is well, each block is asked for once, and goes through when the third one behind it is heard.
func TestBlocksGoThroughAlongAChain(t *testing.T) {
	for n := 1; n <= impl.MaxPeers; n++ {
		h := newChainHall(n, 0, drawn(uint32(n)))
		kinds := map[int]int{}
		for shown := 1; shown < impl.MaxBlocks; shown++ {
			for id := range n {
				h.shows(id)
			}
			if len(h.tree) != shown+1 || h.tree[shown].Parent != shown-1 || h.tree[shown].View != shown || len(h.pool) != n {
				t.Fatalf("among %d: block %d is not shown: %s", n, shown, brief(h.tree))
			}
			for len(h.pool) > 0 {
				l := h.pool[0]
				h.pool = h.pool[1:]
				kinds[l.Kind]++
				h.hears(t, l)
			}
			for id, p := range h.peers {
				var early []int
				if shown > 2 {
					early = []int{shown - 2}
				}
				if !slices.Equal(p.Row, plainRowTo(h.tree, max(shown-3, 0))) || !slices.Equal(p.Early, early) || p.View != shown+1 || p.Last != (impl.Vote{Phase: impl.PhChain, View: shown, Block: shown, By: id}) || p.Lock.Block != max(shown-2, 0) {
					t.Fatalf("among %d, behind block %d: %+v", n, shown, p)
				}
				if id == plainLeader(shown+1, n) && p.High.Block != shown || p.High.Block < shown-1 {
					t.Fatalf("among %d, behind block %d: High is %+v", n, shown, p.High)
				}
			}
		}
		if kinds[impl.LtBlock] != 59*n || kinds[impl.LtVote] != 59*n || kinds[impl.LtQc]+kinds[impl.LtView] != 0 {
			t.Errorf("among %d: %v letters of each Kind", n, kinds)
		}
	}
}

// chainAnswers are what both functions that answer a replica make of blocks and of letters of each Kind: such as are heard, and such as are not.
func chainAnswers(tree []impl.Block, n int, p impl.Peer) []hearAnswer {
	var out []hearAnswer
	if len(tree) < 15 {
		return out
	}
	for _, k := range []int{-1, 0, 2, 3, 4, 6, 7, 8, 13, 14, len(tree)} {
		out = append(out, hearAnswer{p: impl.ChainLearn(tree, p, k)})
	}
	letters := []impl.Letter{{}, newsTo(0, p.Id, p.View, impl.Qc{}), newsTo(3, p.Id, p.View+1, impl.Qc{}), newsTo(3, p.Id, impl.MaxView, signedQc(tree, n, impl.PhChain, 8)), newsTo(3, p.Id+1, 2, impl.Qc{})}
	for _, k := range []int{3, 4, 6, 7, 8, 13, 14} {
		letters = append(letters, shownTo(tree, n, k, p.Id), enoughTo(tree, n, impl.PhChain, k, p.Id))
		for phase := impl.PhOne; phase <= impl.PhChain; phase++ {
			letters = append(letters, votedTo(tree, phase, k, 3, p.Id))
		}
	}
	for _, l := range letters {
		heard, said := impl.ChainHear(tree, n, p, l)
		out = append(out, hearAnswer{heard, said})
	}
	return out
}

// chainPeers are replicas to whom something comes, as leaders and as others.
func chainPeers() []impl.Peer {
	tree := chainTree(4)
	var out []impl.Peer
	for id := range 4 {
		for _, view := range []int{1, 3, 4, 7, 8} {
			p := inView(id, view)
			p.Row = plainRowTo(tree, id)
			p.Cells = plainRowCells(tree, p.Row)
			p = plainTooEarly(tree, p, 4+view)
			p.Votes = slices.Concat(votesOf(impl.PhOne, view, 4, 3), votesOf(impl.PhTwo, view, 7, 5), votesOf(impl.PhChain, view-1, 3, 3))
			out = append(out, p)
		}
	}
	return append(out, impl.PeerNew(1), inView(2, 8), impl.Peer{})
}

func TestChainArgumentsStay(t *testing.T) {
	for _, tree := range append(wrongTrees()[:5], chainTree(4), justTrees()[0], lineOf(0, 1, 2, 3, 4), nil) {
		whole, front := roomyTree(tree)
		was := wholeTree(whole)
		for _, p := range chainPeers() {
			asked := ownMemory(p)
			askedWas := wholePeer(asked)
			// What stands in the spare room is not looked at, nor told.
			for _, l := range allKinds(tree, 4) {
				want, said := plainChain(tree, 4, p, l)
				holdChain(t, front, 4, asked, l, want, said...)
			}
			for _, k := range askedPlaces(tree) {
				holdLearn(t, front, asked, k, plainLearn(tree, p, k))
				_, _, d, three := plainRows(tree, k)
				holdThree(t, front, k, d, three)
			}
			for _, got := range chainAnswers(front, 4, asked) {
				soilPeer(got.p)
				soilLetters(got.out)
			}
			if !samePeer(wholePeer(asked), askedWas) {
				t.Fatalf("the replica is changed: %s, was %s", brief(wholePeer(asked)), brief(askedWas))
			}
		}
		if !sameTree(wholeTree(whole), was) {
			t.Fatalf("the tree is changed: %s, was %s", brief(whole), brief(was))
		}
	}
}

// What is written into an argument, or into another answer, later is not seen in an answer.
func TestChainAnswersNewMemory(t *testing.T) {
	tree := chainTree(4)
	for _, p := range chainPeers() {
		for i := range chainAnswers(tree, 4, p) {
			_, front := roomyTree(tree)
			for _, b := range front {
				for i := range b.Cmds {
					b.Cmds[i].Key = strings.Clone(b.Cmds[i].Key)
				}
			}
			asked := ownMemory(p)
			answers := chainAnswers(front, 4, asked)
			got := answers[i]
			if keys := slices.Concat(keysOf(got.p.Cells, got.p.Undos), keysOf(asked.Cells, asked.Undos), cmdKeys(front)); !ownKeys(keys) {
				t.Fatalf("answer %d: keys stand in one memory, or in an argument's: %s", i, brief(got))
			}
			want := ownMemory(got.p)
			said := slices.Clone(got.out)
			for j, other := range answers {
				if j != i {
					soilPeer(other.p)
					soilLetters(other.out)
				}
			}
			soilPeer(asked)
			soilTree(front)
			if !samePeer(got.p, want) || !slices.Equal(got.out, said) {
				t.Fatalf("answer %d shares memory: %s, was %s", i, brief(got), brief(want))
			}
			// No two lists of one answer share any.
			soilLetters(got.p.News)
			soilNumbers(got.p.Row)
			if !slices.Equal(got.p.Early, want.Early) || !slices.Equal(got.out, said) {
				t.Fatalf("answer %d: two lists share memory", i)
			}
		}
	}
}

// An empty list with spare room is not handed back, either: what grows in the answer later grows elsewhere.
func TestChainAnswersNoSpareRoom(t *testing.T) {
	tree := chainTree(4)
	for id := range 4 {
		for view := 1; view <= 9; view++ {
			asked := roomyPeer(impl.Peer{Id: id, View: view})
			for i, got := range chainAnswers(tree, 4, asked) {
				p := got.p
				if p.Row != nil && unsafe.SliceData(p.Row) == unsafe.SliceData(asked.Row) || p.Early != nil && unsafe.SliceData(p.Early) == unsafe.SliceData(asked.Early) || p.Cells != nil && unsafe.SliceData(p.Cells) == unsafe.SliceData(asked.Cells) ||
					p.Undos != nil && unsafe.SliceData(p.Undos) == unsafe.SliceData(asked.Undos) || p.Votes != nil && unsafe.SliceData(p.Votes) == unsafe.SliceData(asked.Votes) || p.News != nil && unsafe.SliceData(p.News) == unsafe.SliceData(asked.News) || got.out != nil && unsafe.SliceData(got.out) == unsafe.SliceData(asked.News) {
					t.Errorf("answer %d has a list of the argument's memory", i)
				}
			}
		}
	}
}

// The same is answered each time.
func TestChainAnswersAreTheSameEachTime(t *testing.T) {
	tree := chainTree(4)
	for _, p := range chainPeers() {
		was := chainAnswers(tree, 4, p)
		for range 5 {
			for i, got := range chainAnswers(tree, 4, p) {
				if !samePeer(got.p, was[i].p) || !slices.Equal(got.out, was[i].out) {
					t.Fatalf("answer %d is %s, was %s", i, brief(got), brief(was[i]))
				}
			}
		}
	}
}

// The chapter 'Ways': what was heard is compared as a struct, in a function that ChainHear reaches.
func TestWhatWasHeardIsCompared(t *testing.T) {
	file, err := parser.ParseFile(token.NewFileSet(), "../impl/l12_chain.go", nil, 0)
	if err != nil {
		t.Fatal(err)
	}
	functions := map[string]*ast.FuncDecl{}
	for _, d := range file.Decls {
		if f, ok := d.(*ast.FuncDecl); ok {
			functions[f.Name.Name] = f
		}
	}
	reached, found := []string{"ChainHear"}, 0
	for i := 0; i < len(reached); i++ {
		f := functions[reached[i]]
		found += comparesHeard(f)
		ast.Inspect(f, func(n ast.Node) bool {
			if call, ok := n.(*ast.CallExpr); ok {
				if name, ok := call.Fun.(*ast.Ident); ok && functions[name.Name] != nil && !slices.Contains(reached, name.Name) {
					reached = append(reached, name.Name)
				}
			}
			return true
		})
	}
	if found == 0 {
		t.Error("no letter that was heard is compared as a struct")
	}
}

// comparesHeard counts where a function holds a whole letter that was handed in against something.
func comparesHeard(f *ast.FuncDecl) int {
	var heard []string
	for _, field := range f.Type.Params.List {
		if of, ok := field.Type.(*ast.Ident); ok && of.Name == "Letter" {
			for _, name := range field.Names {
				heard = append(heard, name.Name)
			}
		}
	}
	found := 0
	ast.Inspect(f.Body, func(n ast.Node) bool {
		b, ok := n.(*ast.BinaryExpr)
		if !ok || b.Op != token.EQL && b.Op != token.NEQ {
			return true
		}
		for _, side := range []ast.Expr{b.X, b.Y} {
			if name, ok := side.(*ast.Ident); ok && slices.Contains(heard, name.Name) {
				found++
			}
		}
		return true
	})
	return found
}
