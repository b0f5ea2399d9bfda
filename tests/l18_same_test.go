package tests

import (
	"go/ast"
	"go/parser"
	"go/token"
	"math"
	"slices"
	"strconv"
	"strings"
	"testing"

	"loop.example/g00330/impl"
)

// The plain ones are the chapter's own words, sentence by sentence.
func plainRowOf(c impl.Cluster) []int {
	longest := 0
	for _, i := range plainHonest(c) {
		longest = max(longest, len(c.Peers[i].Row))
	}
	for _, i := range plainHonest(c) {
		if len(c.Peers[i].Row) == longest {
			return c.Peers[i].Row
		}
	}
	return nil
}

func plainBatchesOf(c impl.Cluster) [][]impl.Cmd {
	var out [][]impl.Cmd
	for _, k := range plainRowOf(c) {
		if k >= 0 && k < len(c.Tree) && len(c.Tree[k].Cmds) > 0 {
			out = append(out, c.Tree[k].Cmds)
		}
	}
	return out
}

func plainReplayed(n int, chain bool, batches [][]impl.Cmd) (impl.Cluster, bool) {
	c, ok := plainClusterNew(n, chain, 0)
	if !ok || len(batches) > 6 {
		return impl.Cluster{}, false
	}
	for _, cmds := range batches {
		if len(cmds) == 0 || len(cmds) > 4 || !allRight(cmds) {
			return impl.Cluster{}, false
		}
	}
	for _, cmds := range batches {
		for _, x := range cmds {
			c, _ = plainOffer(c, x)
		}
		for i := 0; i < 20 && len(c.Pending) > 0; i++ {
			c = plainCalmRound(c)
		}
	}
	return plainCalmRounds(c, 12), true
}

func allRight(cmds []impl.Cmd) bool {
	return !slices.ContainsFunc(cmds, func(x impl.Cmd) bool { return !impl.CmdOk(x) })
}

func plainSameBatches(a [][]impl.Cmd, b [][]impl.Cmd) bool {
	if len(a) != len(b) {
		return false
	}
	for i := range a {
		if len(a[i]) != len(b[i]) {
			return false
		}
		for j := range a[i] {
			if a[i][j].Kind != b[i][j].Kind || a[i][j].Key != b[i][j].Key || a[i][j].Num != b[i][j].Num {
				return false
			}
		}
	}
	return true
}

// plainMade is what the commands make, one after the other, from nothing on.
func plainMade(batches [][]impl.Cmd) []impl.Cell {
	var list []impl.Cell
	for _, x := range slices.Concat(batches...) {
		list, _ = plainDone(list, x)
	}
	return list
}

func holdRowOf(t *testing.T, c impl.Cluster, want []int) {
	t.Helper()
	if got := impl.RowOf(c); !slices.Equal(got, want) {
		t.Fatalf("RowOf of\n%s\nis %v, want %v", brief(c), got, want)
	}
}

func holdBatchesOf(t *testing.T, c impl.Cluster, want ...[]impl.Cmd) {
	t.Helper()
	if got := impl.BatchesOf(c); !plainSameBatches(got, want) {
		t.Fatalf("BatchesOf of\n%s\nis %v, want %v", brief(c), got, want)
	}
}

func holdCellsOf(t *testing.T, c impl.Cluster, want []impl.Cell) {
	t.Helper()
	if got := impl.CellsOf(c); !slices.Equal(got, want) {
		t.Fatalf("CellsOf of\n%s\nis %v, want %v", brief(c), got, want)
	}
}

// holdSameByTheWords asks all that is asked of a cluster alone.
func holdSameByTheWords(t *testing.T, c impl.Cluster) {
	t.Helper()
	holdRowOf(t, c, plainRowOf(c))
	holdBatchesOf(t, c, plainBatchesOf(c)...)
	holdCellsOf(t, c, plainRowCells(c.Tree, plainRowOf(c)))
}

// holdReplayed answers what was replayed, so that more of it can be asked.
func holdReplayed(t *testing.T, n int, chain bool, batches [][]impl.Cmd) impl.Cluster {
	t.Helper()
	got, ok := impl.Replayed(n, chain, batches)
	if want, wantOk := plainReplayed(n, chain, batches); !ok || !wantOk || !sameCluster(got, want) {
		t.Fatalf("Replayed(%d, %v, %v) is\n%+v, %v, want\n%+v, %v", n, chain, batches, got, ok, want, wantOk)
	}
	return got
}

func notReplayed(t *testing.T, n int, batches ...[]impl.Cmd) {
	t.Helper()
	for _, chain := range []bool{false, true} {
		if got, ok := impl.Replayed(n, chain, batches); ok || !sameCluster(got, impl.Cluster{}) {
			t.Fatalf("Replayed(%d, %v, %v) is\n%+v, %v", n, chain, batches, got, ok)
		}
	}
}

func holdSame(t *testing.T, a [][]impl.Cmd, b [][]impl.Cmd, want bool) {
	t.Helper()
	if impl.SameBatches(a, b) != want || impl.SameBatches(b, a) != want || plainSameBatches(a, b) != want {
		t.Fatalf("SameBatches of\n%v\n%v is %v", a, b, !want)
	}
}

// ofRows is a cluster in which each one has one of these Rows.
func ofRows(n int, liars int, tree []impl.Block, rows ...[]int) impl.Cluster {
	c := impl.Cluster{N: n, Liars: liars, Tree: tree}
	for id, row := range rows {
		c.Peers = append(c.Peers, impl.Peer{Id: id, View: 1, Row: row})
	}
	return c
}

// treeOf has a block for each of these lists, each on the one ahead of it.
func treeOf(lists ...[]impl.Cmd) []impl.Block {
	tree := []impl.Block{first()}
	for _, cmds := range lists {
		tree = append(tree, on(tree, len(tree)-1, len(tree), cmds...))
	}
	return tree
}

// alikeBatches are so many that are all the same.
func alikeBatches(count int) [][]impl.Cmd {
	return slices.Repeat([][]impl.Cmd{{add("a", 1)}}, count)
}

func TestRowOf(t *testing.T) {
	one, two, three, none := []int{1}, []int{2, 3}, []int{4, 5, 6}, []int(nil)
	tree := rowWith(9)
	for _, r := range []struct {
		what  string
		n     int
		liars int
		rows  [][]int
		want  []int
	}{
		{"no Peers", 4, 0, nil, none},
		{"no Peers, and all lie", 4, 15, nil, none},
		{"one alone", 1, 0, [][]int{two}, two},
		{"all of them liars", 3, 7, [][]int{one, two, three}, none},
		{"all empty", 4, 0, [][]int{none, {}, none, {}}, none},
		{"all empty but one who lies", 4, 4, [][]int{none, {}, three, {}}, none},
		{"the first is the longest", 3, 0, [][]int{three, one, two}, three},
		{"the second", 3, 0, [][]int{one, three, two}, three},
		{"the last", 3, 0, [][]int{one, two, three}, three},
		{"the first is empty", 3, 0, [][]int{none, one, none}, one},
		{"two as long", 3, 0, [][]int{one, two, {8, 7}}, two},
		{"two as long, the other way round", 3, 0, [][]int{one, {8, 7}, two}, []int{8, 7}},
		{"all as long", 4, 0, [][]int{{7}, {1}, {2}, {3}}, []int{7}},
		{"as long as the first one's, who lies", 4, 1, [][]int{{7}, {1}, {2}, {3}}, one},
		{"a longer one of one who lies", 4, 4, [][]int{one, two, three, none}, two},
		{"a longer one of one who lies, ahead", 4, 1, [][]int{three, two, one, none}, two},
		{"a longer one of one who lies, behind", 4, 8, [][]int{one, one, two, three}, two},
		{"two who lie", 7, 9, [][]int{three, one, none, three, two, {3, 2}, one}, two},
		{"one alone does not lie", 4, 11, [][]int{three, three, one, three}, one},
		{"a place of N that Peers has", 3, 0, [][]int{one, two, one, three}, three},
		{"a place above N, whose bit is 1", 2, 15, [][]int{three, three, one, two}, two},
		{"bits of nobody", 3, -8, [][]int{one, two, one}, two},
		{"N of 0: nobody lies", 0, 7, [][]int{one, two, three}, three},
		{"N below 0", -5, -1, [][]int{one, three, two}, three},
		{"the greatest N, all bits", math.MaxInt, -1, [][]int{one, three, two}, none},
		{"fewer Peers than N", 7, 2, [][]int{one, two, one}, one},
		{"what is no block", 3, 0, [][]int{one, {-1, 900, math.MinInt, math.MaxInt, 0}, two}, []int{-1, 900, math.MinInt, math.MaxInt, 0}},
		{"what stands there twice", 3, 0, [][]int{{1, 1, 1, 1}, three, two}, []int{1, 1, 1, 1}},
	} {
		c := ofRows(r.n, r.liars, tree, r.rows...)
		if got := impl.RowOf(c); !slices.Equal(got, r.want) || !slices.Equal(plainRowOf(c), r.want) {
			t.Errorf("%s: RowOf is %v, want %v", r.what, got, r.want)
		}
		// Neither the tree nor which way it is changes it.
		c.Chain, c.Tree = true, nil
		holdRowOf(t, c, r.want)
	}
	// What is Early is no part of a Row, nor do Views or Cells count.
	c := ofRows(3, 0, tree, one, two, one)
	c.Peers[0].Early, c.Peers[0].View, c.Peers[2].Cells = []int{2, 3, 4}, 900, []impl.Cell{{Key: "a"}}
	holdRowOf(t, c, two)
	// A very long one.
	long := slices.Repeat([]int{3}, 100000)
	holdRowOf(t, ofRows(3, 0, tree, one, long, two), long)
	// All Rows of three, short and long, with all who may lie.
	for sizes := range 64 {
		for liars := range 8 {
			a, b, d := sizes%4, sizes/4%4, sizes/16
			holdSameByTheWords(t, ofRows(3, liars, rowWith(9), []int{1, 2, 3}[:a], []int{4, 5, 6}[:b], []int{7, 8, 1}[:d]))
		}
	}
}

func TestBatchesOf(t *testing.T) {
	a, b, d := []impl.Cmd{set("a", 5)}, []impl.Cmd{add("a", 2), take("a", 1)}, []impl.Cmd{set("b", 0), set("c", 1), take("b", 1), add("zz", 4)}
	for _, r := range []struct {
		what  string
		lists [][]impl.Cmd
		want  [][]impl.Cmd
	}{
		{"no block", nil, nil},
		{"none has commands", [][]impl.Cmd{nil, {}, nil}, nil},
		{"all have some", [][]impl.Cmd{a, b, d}, [][]impl.Cmd{a, b, d}},
		{"none at the beginning", [][]impl.Cmd{nil, {}, a, b}, [][]impl.Cmd{a, b}},
		{"none in the middle", [][]impl.Cmd{a, nil, {}, nil, b, {}, d}, [][]impl.Cmd{a, b, d}},
		{"none at the end", [][]impl.Cmd{d, b, nil, {}}, [][]impl.Cmd{d, b}},
		{"none everywhere", [][]impl.Cmd{{}, d, nil, a, nil, nil, b, {}}, [][]impl.Cmd{d, a, b}},
		{"alike ones stay", [][]impl.Cmd{a, a, nil, a}, [][]impl.Cmd{a, a, a}},
		{"one alone", [][]impl.Cmd{nil, nil, b, nil}, [][]impl.Cmd{b}},
	} {
		tree := treeOf(r.lists...)
		c := ofRows(4, 0, tree, nil, plainRowTo(tree, len(tree)-1), nil)
		if got := impl.BatchesOf(c); !plainSameBatches(got, r.want) {
			t.Errorf("%s: BatchesOf is %v, want %v", r.what, got, r.want)
		}
		holdCellsOf(t, c, plainMade(r.want))
		// Nobody has a Row, or only one who lies.
		c.Liars = 2
		holdBatchesOf(t, c)
		holdCellsOf(t, c, nil)
		c.Peers[1].Row, c.Liars = nil, 0
		holdBatchesOf(t, c)
	}
	// Only blocks of the Row count, in its order, and as often as they stand there.
	tree := treeOf(a, b, nil, d)
	for _, r := range []struct {
		row  []int
		want [][]impl.Cmd
	}{
		{[]int{1, 2}, [][]impl.Cmd{a, b}}, {[]int{2, 1}, [][]impl.Cmd{b, a}}, {[]int{4}, [][]impl.Cmd{d}}, {[]int{3}, nil}, {[]int{4, 3, 4, 1, 4}, [][]impl.Cmd{d, d, a, d}},
		// What is no block of the tree has none.
		{[]int{-1, 1, 5, 2, 6}, [][]impl.Cmd{a, b}}, {[]int{math.MinInt, math.MaxInt, -2, 900, 4}, [][]impl.Cmd{d}}, {[]int{-1}, nil}, {[]int{5}, nil}, {[]int{0}, nil}, {[]int{0, 1, 0}, [][]impl.Cmd{a}},
	} {
		c := ofRows(1, 0, tree, r.row)
		holdBatchesOf(t, c, r.want...)
		holdCellsOf(t, c, plainMade(r.want))
	}
	// The first block is one like any other; more than MaxCmds, and those that are not right, are told as they are.
	wild := []impl.Block{{Cmds: a}, {Cmds: slices.Repeat(d, 9)}, {Cmds: []impl.Cmd{{}}}, {Cmds: wrongCmds()}}
	holdBatchesOf(t, ofRows(1, 0, wild, []int{0, 1, 2, 3}), a, wild[1].Cmds, wild[2].Cmds, wild[3].Cmds)
	holdBatchesOf(t, ofRows(1, 0, nil, []int{0, 1, 2, 3}))
	// More batches than may be replayed are told all the same.
	long := treeOf(slices.Repeat([][]impl.Cmd{a, nil, b}, 19)...)
	if got := impl.BatchesOf(ofRows(4, 0, long, plainRowTo(long, 57))); len(got) != 38 {
		t.Errorf("%d batches are told", len(got))
	}
}

func TestCellsOf(t *testing.T) {
	// By hand: one after the other, those that are refused change nothing.
	tree := treeOf([]impl.Cmd{set("b", 5), set("a", 1)}, nil, []impl.Cmd{add("a", 2), take("b", 6), add("c", 1)}, []impl.Cmd{take("b", 5)})
	row := []int{1, 2, 3, 4}
	for size, want := range [][]impl.Cell{nil, {{Key: "a", Num: 1}, {Key: "b", Num: 5}}, {{Key: "a", Num: 1}, {Key: "b", Num: 5}}, {{Key: "a", Num: 3}, {Key: "b", Num: 5}}, {{Key: "a", Num: 3}, {Key: "b"}}} {
		holdCellsOf(t, ofRows(4, 4, tree, nil, row[:size], row, nil), want)
	}
	// Commands that change nothing.
	for _, x := range []impl.Cmd{add("a", 1), take("a", 0), set("a", -1), set("A", 1), {}} {
		holdCellsOf(t, ofRows(1, 0, treeOf([]impl.Cmd{x}, []impl.Cmd{x, x}), []int{1, 2}), nil)
	}
	// The Row makes them, whatever the one who has it says of its Cells, and what is Early.
	c := ofRows(2, 0, tree, row[:1], row[:3])
	c.Peers[0].Cells, c.Peers[1].Cells, c.Peers[1].Early = []impl.Cell{{Key: "x", Num: 9}}, []impl.Cell{{Key: "y", Num: 9}}, []int{4}
	holdCellsOf(t, c, []impl.Cell{{Key: "a", Num: 3}, {Key: "b", Num: 5}})
	// The first one of two that are as long makes them.
	other := append(treeOf([]impl.Cmd{set("a", 1)}), impl.Block{View: 2, Cmds: []impl.Cmd{set("a", 2)}})
	for liars, want := range map[int]int{0: 1, 1: 2, 2: 1} {
		holdCellsOf(t, ofRows(2, liars, other, []int{1}, []int{2}), []impl.Cell{{Key: "a", Num: want}})
	}
	// More accounts than there is room for.
	var lists [][]impl.Cmd
	for i := range impl.MaxCells + 5 {
		lists = append(lists, []impl.Cmd{set(string([]byte{byte('z' - i)}), i)})
	}
	got := impl.CellsOf(ofRows(1, 0, treeOf(lists...), plainRowTo(treeOf(lists...), len(lists))))
	if len(got) != impl.MaxCells || got[0] != (impl.Cell{Key: "o", Num: 11}) || got[11] != (impl.Cell{Key: "z", Num: 0}) {
		t.Errorf("CellsOf = %v", got)
	}
	holdCellsOf(t, impl.Cluster{}, nil)
	holdCellsOf(t, ofRows(1, 0, tree, []int{-1, 5, math.MaxInt, math.MinInt}), nil)
}

// What is replayed: each batch has a block of its own, and blocks without commands let the last of them through.
func TestReplayed(t *testing.T) {
	for n := 1; n <= impl.MaxPeers; n++ {
		for count := range 7 {
			var batches [][]impl.Cmd
			for i := range count {
				batches = append(batches, rightCmds()[7*n+i*5:][:1+(n+i)%4])
			}
			for _, chain := range []bool{false, true} {
				c := holdReplayed(t, n, chain, batches)
				if c.N != n || c.Chain != chain || c.Liars != 0 || len(c.Pending) != 0 || len(c.Peers) != n || len(c.Tree) != 13+count || !plainTreeOk(c.Tree) {
					t.Fatalf("Replayed(%d, %v) of %v is\n%+v", n, chain, batches, c)
				}
				for i, b := range c.Tree[1:] {
					want := []impl.Cmd(nil)
					if i < count {
						want = batches[i]
					}
					if b.Parent != i || b.View != i+1 || !slices.Equal(b.Cmds, want) {
						t.Fatalf("Replayed(%d, %v) of %v puts %+v at %d", n, chain, batches, b, i+1)
					}
				}
				// Asked once, three blocks are not through.
				through := 12 + count
				if chain {
					through -= 3
				}
				holdRowOf(t, c, plainRowTo(c.Tree, through))
				holdBatchesOf(t, c, batches...)
				if impl.LeastRow(c) < through-1 {
					t.Errorf("Replayed(%d, %v): only %d are through with all", n, chain, impl.LeastRow(c))
				}
			}
		}
	}
	// By hand, one batch and one replica, asked three times.
	c := holdReplayed(t, 1, false, [][]impl.Cmd{{set("a", 5), add("a", 2)}})
	holdCellsOf(t, c, []impl.Cell{{Key: "a", Num: 7}})
	holdRowOf(t, c, []int{1, 2, 3, 4, 5, 6, 7, 8, 9, 10, 11, 12, 13})
	if len(c.Said) != 39 || c.Peers[0].View != 14 {
		t.Errorf("%d votes are said, and the View is %d", len(c.Said), c.Peers[0].View)
	}
	// Without batches there are the last rounds alone.
	for _, chain := range []bool{false, true} {
		want := impl.CalmRounds(newCluster(t, 4, chain, 0), 12)
		for _, none := range [][][]impl.Cmd{nil, {}} {
			if got := holdReplayed(t, 4, chain, none); !sameCluster(got, want) {
				t.Errorf("with chain %v, of nothing: %+v", chain, got)
			}
		}
	}
	// Batches that are alike are different blocks.
	for count := 1; count <= 6; count++ {
		for _, chain := range []bool{false, true} {
			c := holdReplayed(t, 4, chain, append([][]impl.Cmd{{set("a", 0)}}, alikeBatches(count-1)...))
			holdCellsOf(t, c, []impl.Cell{{Key: "a", Num: count - 1}})
			if got := impl.BatchesOf(c); len(got) != count {
				t.Errorf("with chain %v, of %d alike ones there are %d", chain, count, len(got))
			}
		}
	}
}

func TestReplayedIsRefused(t *testing.T) {
	for _, n := range somePeers() {
		for count := range 10 {
			for _, chain := range []bool{false, true} {
				got, ok := impl.Replayed(n, chain, alikeBatches(count))
				if want := n >= 1 && n <= 7 && count <= 6; ok != want || !ok && !sameCluster(got, impl.Cluster{}) {
					t.Fatalf("Replayed(%d, %v) of %d batches is\n%+v, %v", n, chain, count, got, ok)
				}
			}
		}
		// Who is no number of replicas, and has wrong batches.
		notReplayed(t, n, nil)
		notReplayed(t, n, alikeBatches(7)...)
		notReplayed(t, n, []impl.Cmd{{}})
	}
	notReplayed(t, 4, alikeBatches(1000)...)
	// One of the batches has none, or too many, wherever it is; MaxCmds are enough.
	right := []impl.Cmd{set("a", 1), add("b", 2), take("zzz", 3), set("ab", impl.MaxNumber)}
	for count := 1; count <= 6; count++ {
		for at := range count {
			for size := range 10 {
				batches := alikeBatches(count)
				batches[at] = slices.Repeat(right, 3)[:size]
				if size >= 1 && size <= 4 {
					holdReplayed(t, 4, at%2 == 0, batches)
				} else {
					notReplayed(t, 4, batches...)
				}
			}
			batches := alikeBatches(count)
			batches[at] = nil
			notReplayed(t, 4, batches...)
		}
	}
	// One of the commands is not right, wherever it is.
	for _, wrong := range wrongCmds() {
		notReplayed(t, 4, []impl.Cmd{wrong})
		for at := range 4 {
			cmds := slices.Clone(right)
			cmds[at] = wrong
			notReplayed(t, 4, cmds)
			notReplayed(t, 4, cmds[:at+1])
			for place := range 6 {
				batches := alikeBatches(6)
				batches[place] = cmds
				notReplayed(t, 1+place, batches...)
			}
		}
		// One that is in a batch too many, too.
		notReplayed(t, 4, append(alikeBatches(6), []impl.Cmd{wrong})...)
	}
	for _, x := range rightCmds() {
		if _, ok := impl.Replayed(1, false, [][]impl.Cmd{{x}}); !ok {
			t.Errorf("Replayed of %v is refused", x)
		}
	}
}

func TestSameBatches(t *testing.T) {
	a, b, d := []impl.Cmd{set("a", 5)}, []impl.Cmd{add("a", 2), take("a", 1)}, []impl.Cmd{set("b", 0), set("c", 1), take("b", 1), add("zz", 4)}
	lists := [][][]impl.Cmd{
		nil, {{}}, {{}, {}}, {{}, {}, {}}, {a}, {b}, {d}, {a, a}, {a, a, a}, {a, b}, {b, a}, {a, b, d}, {a, d, b}, {b, a, d}, {b, d, a}, {d, a, b}, {d, b, a},
		// The same commands, cut into other batches.
		{slices.Concat(a, b)}, {slices.Concat(a, b[:1]), b[1:]}, {a, b[:1], b[1:]}, {a, b, d[:1], d[1:]}, {a, slices.Concat(b, d)}, {slices.Concat(a, b, d)},
		// With an empty one ahead, between or behind.
		{{}, a}, {a, {}}, {{}, a, b}, {a, {}, b}, {a, b, {}}, {{}, {}, a}, {a, {}, {}},
		// Beginnings of others, in length of batches and in length of the list.
		{d[:1]}, {d[:2]}, {d[:3]}, {d, d[:3]}, {d, d}, {d[1:]}, {a, b, d, a},
		// Wrong ones.
		{{{}}}, {{{}, {}}}, {{{}}, {{}}}, {wrongCmds()}, {slices.Repeat(d, 50)}, slices.Repeat([][]impl.Cmd{a}, 300), slices.Repeat([][]impl.Cmd{a}, 301), slices.Repeat([][]impl.Cmd{{}}, 300),
	}
	for i, x := range lists {
		for j, y := range lists {
			holdSame(t, x, y, i == j)
		}
		// The same in other memory, and one that is empty for nil.
		var other [][]impl.Cmd
		for _, cmds := range x {
			other = append(other, append([]impl.Cmd{}, cmds...))
		}
		holdSame(t, x, other, true)
		for k := range other {
			if len(other[k]) == 0 {
				other[k] = nil
			}
		}
		holdSame(t, x, other, true)
	}
	holdSame(t, nil, [][]impl.Cmd{}, true)
	holdSame(t, [][]impl.Cmd{nil}, nil, false)
	// Commands that differ in one field alone, wherever they stand.
	for _, turn := range []func(*impl.Cmd){
		func(x *impl.Cmd) { x.Kind++ }, func(x *impl.Cmd) { x.Kind = -x.Kind }, func(x *impl.Cmd) { x.Key += "a" }, func(x *impl.Cmd) { x.Key = "" }, func(x *impl.Cmd) { x.Key = strings.ToUpper(x.Key) }, func(x *impl.Cmd) { x.Num++ },
		func(x *impl.Cmd) { x.Num += 1 << 32 }, func(x *impl.Cmd) { x.Num = math.MinInt },
	} {
		for at, batch := range [][]impl.Cmd{a, b, d} {
			for place := range batch {
				other := [][]impl.Cmd{slices.Clone(a), slices.Clone(b), slices.Clone(d)}
				holdSame(t, [][]impl.Cmd{a, b, d}, other, true)
				turn(&other[at][place])
				holdSame(t, [][]impl.Cmd{a, b, d}, other, false)
			}
		}
	}
	// All lists of up to three batches of up to two commands of two kinds.
	var few [][]impl.Cmd
	for _, x := range []string{"", "p", "q", "pp", "pq", "qp", "qq"} {
		var cmds []impl.Cmd
		for i := range len(x) {
			cmds = append(cmds, set(x[i:i+1], 1))
		}
		few = append(few, cmds)
	}
	small := [][][]impl.Cmd{{}}
	for from, size := 0, 1; size < 4; size++ {
		for end := len(small); from < end; from++ {
			for _, cmds := range few {
				small = append(small, append(slices.Clone(small[from]), cmds))
			}
		}
	}
	for i, x := range small {
		for j, y := range small {
			if impl.SameBatches(x, y) != (i == j) {
				t.Fatalf("SameBatches of\n%v\n%v is %v", x, y, i != j)
			}
		}
	}
}

// drawnBatch are commands that make accounts, and some that are refused, since there is none, or they come to too much or too little.
func drawnBatch(draw func(int) int) []impl.Cmd {
	var cmds []impl.Cmd
	for range 1 + draw(4) {
		cmds = append(cmds, impl.Cmd{Kind: []int{1, 1, 1, 2, 2, 3}[draw(6)], Key: []string{"a", "b", "ab", "zzz"}[draw(4)], Num: []int{0, 1, 5, 100, impl.MaxNumber - 3, impl.MaxNumber}[draw(6)]})
	}
	return cmds
}

// wideBatch makes four accounts of many, more of which may be made than there is room for.
func wideBatch(draw func(int) int) []impl.Cmd {
	var cmds []impl.Cmd
	for range impl.MaxCmds {
		cmds = append(cmds, set(string([]byte{byte('a' + draw(26))}), draw(9)))
	}
	return cmds
}

// holdSamePromise is promise 18: replayed in this way, the batches are the same, and so are the accounts, with every one who has the whole Row.
func holdSamePromise(t *testing.T, n int, chain bool, batches [][]impl.Cmd, cells []impl.Cell) {
	t.Helper()
	c, ok := impl.Replayed(n, chain, batches)
	if !ok {
		t.Fatalf("Replayed(%d, %v, %v) is refused", n, chain, batches)
	}
	if got := impl.BatchesOf(c); !impl.SameBatches(got, batches) || !plainSameBatches(got, batches) {
		t.Fatalf("BatchesOf of Replayed(%d, %v) of\n%v\nis %v", n, chain, batches, got)
	}
	holdCellsOf(t, c, cells)
	holdCellsOf(t, c, plainMade(batches))
	holdOwnCells(t, c)
}

// holdOwnCells holds what those who have the longest Row know against what it makes.
func holdOwnCells(t *testing.T, c impl.Cluster) {
	t.Helper()
	for _, i := range plainHonest(c) {
		p := c.Peers[i]
		if cells := impl.UndoneAll(p.Cells, p.Undos); slices.Equal(p.Row, impl.RowOf(c)) && !slices.Equal(cells, impl.CellsOf(c)) {
			t.Fatalf("%d has %v, and CellsOf is %v", i, cells, impl.CellsOf(c))
		}
	}
}

// Promise 18: both ways come to the same rows of batches, and the same accounts, however many replicas there are.
func TestBothWaysComeToTheSame(t *testing.T) {
	counts := map[int]int{}
	for seed := range uint32(700) {
		draw := drawn(seed*983 + 7)
		var batches [][]impl.Cmd
		for range draw(7) {
			if seed%4 == 0 {
				batches = append(batches, wideBatch(draw))
			} else {
				batches = append(batches, drawnBatch(draw))
			}
		}
		if seed%5 == 0 && len(batches) > 1 {
			batches[0] = batches[len(batches)-1]
		}
		cells := plainMade(batches)
		holdSamePromise(t, 1+draw(7), false, batches, cells)
		holdSamePromise(t, 1+draw(7), true, batches, cells)
		var list []impl.Cell
		for _, x := range slices.Concat(batches...) {
			next, code := plainDone(list, x)
			list = next
			counts[code]++
		}
		counts[10+len(list)]++
		counts[30+len(batches)]++
	}
	for what, want := range map[int]int{0: 2000, impl.ErrNone: 500, impl.ErrOver: 200, 10: 50, 14: 50, 10 + impl.MaxCells: 30, 30: 50, 33: 50, 36: 50} {
		if counts[what] < want {
			t.Errorf("only %d of %d: %v", counts[what], what, counts)
		}
	}
}

// Promise 18, of every list of up to two batches of up to two of some commands.
func TestBothWaysComeToTheSameOfAllSmallLists(t *testing.T) {
	some := []impl.Cmd{set("a", 1), add("a", 1), take("a", 1), set("b", impl.MaxNumber)}
	var one [][]impl.Cmd
	for _, x := range some {
		one = append(one, []impl.Cmd{x})
		for _, y := range some {
			one = append(one, []impl.Cmd{x, y})
		}
	}
	lists := [][][]impl.Cmd{nil}
	for _, x := range one {
		lists = append(lists, [][]impl.Cmd{x})
		for _, y := range one {
			lists = append(lists, [][]impl.Cmd{x, y})
		}
	}
	for i, batches := range lists {
		cells := plainMade(batches)
		for _, chain := range []bool{false, true} {
			holdSamePromise(t, 1+i%7, chain, batches, cells)
		}
	}
}

// sameLife is a calm one in which more is offered, and more goes through.
type sameLife struct {
	*calmLife
}

func (h *sameLife) goesOn() {
	switch at := h.draw(40); {
	case at < 4 && len(h.c.Pending) == 0:
		for _, x := range drawnBatch(h.draw) {
			h.act(offering(x))
		}
	case at > 36:
		h.act(calming())
	}
	h.calmLife.goesOn()
}

// Promise 18, of drawn lives in both ways: letters are lost, come twice and late, some fall and some lie; what went through, replayed the other way, comes to the same batches and accounts.
func TestALifeReplayedTheOtherWay(t *testing.T) {
	for _, chain := range []bool{false, true} {
		counts := map[string]int{}
		for seed := range uint32(420) {
			h := &sameLife{newCalmLife(t, seed, chain)}
			for range 30 + seed*11%210 {
				if h.goesOn(); len(h.c.Tree) > 24 {
					break
				}
			}
			// Some end as they are, in others all is well at last.
			if seed%3 > 0 {
				h.c = impl.CalmRounds(h.c, int(seed%30))
			}
			c := h.c
			batches := impl.BatchesOf(c)
			holdSameByTheWords(t, c)
			holdOwnCells(t, c)
			holdCellsOf(t, c, plainMade(batches))
			if c.Liars != 0 {
				counts["some lie"]++
			}
			if len(impl.RowOf(c)) > len(batches) {
				counts["without commands"]++
			}
			counts["batches"] += len(batches)
			if len(batches) > 6 {
				counts["too many"]++
				notReplayed(t, c.N, batches...)
				batches = batches[:6]
				holdSamePromise(t, c.N, !chain, batches, plainMade(batches))
				continue
			}
			counts["of "+strconv.Itoa(len(batches))]++
			holdSamePromise(t, c.N, !chain, batches, impl.CellsOf(c))
			// The same way, among others, too.
			holdSamePromise(t, 1+int(seed%7), chain, batches, impl.CellsOf(c))
		}
		for what, want := range map[string]int{"some lie": 150, "without commands": 150, "batches": 800, "too many": 20, "of 0": 20, "of 1": 20, "of 2": 40, "of 3": 40, "of 4": 30, "of 5": 20, "of 6": 10} {
			if counts[what] < want {
				t.Errorf("with chain %v: only %d of %s: %v", chain, counts[what], what, counts)
			}
		}
	}
}

// sameClusters have parts that fit one another, and such as do not.
func sameClusters(t *testing.T) []impl.Cluster {
	out := append(wrongClusters(), handHall(), allGave(t, letterTree(7), 7, 3), allGave(t, hollowTree(), 4, 2))
	for _, chain := range []bool{false, true} {
		for i, c := range wellUsed(t, chain, 8, 100) {
			out = append(out, c)
			c.Chain, c.Liars, c.N = !chain, i%9, 3+i%6
			out = append(out, c)
		}
	}
	for i, a := range fieldNumbers() {
		b := fieldNumbers()[(i*7+3)%len(fieldNumbers())]
		for j, tree := range [][]impl.Block{nil, wildBlocks()[:40], wildBlocks()[60:], unsigned(70), wrongCmdsTree(), accountTree(), fullTree()} {
			c := ofRows(3+j%3, j%4, tree, []int{1, 0}, []int{a, 1, 2, b, 3, a, 4, 5, 6, b, 60}[:i%12], []int{3, b, -1, len(tree), len(tree) - 1, a}[j%4:], []int{a})
			out = append(out, c)
			c.N, c.Liars = a, b
			out = append(out, c)
		}
	}
	return out
}

// Each function answers as the chapter says, of everything.
func TestSameByTheWords(t *testing.T) {
	counts := map[string]int{}
	clusters := sameClusters(t)
	for i, c := range clusters {
		holdSameByTheWords(t, c)
		counts["rows"] += min(1, len(plainRowOf(c)))
		counts["cells"] += min(1, len(impl.CellsOf(c)))
		batches := plainBatchesOf(c)
		other := plainBatchesOf(clusters[(i+1)%len(clusters)])
		holdSame(t, batches, other, plainSameBatches(batches, other))
		if i%3 > 0 {
			continue
		}
		for _, n := range []int{1 + i%7, 4, c.N, somePeers()[i%len(somePeers())]} {
			want, ok := plainReplayed(n, i%2 == 0, batches)
			if got, done := impl.Replayed(n, i%2 == 0, batches); done != ok || !sameCluster(got, want) {
				t.Fatalf("Replayed(%d, %v, %v) is\n%+v, %v, want\n%+v, %v", n, i%2 == 0, batches, got, done, want, ok)
			}
			if ok {
				counts["replayed"]++
			} else {
				counts["refused"]++
			}
		}
	}
	for what, want := range map[string]int{"rows": 400, "cells": 200, "replayed": 150, "refused": 150} {
		if counts[what] < want {
			t.Errorf("only %d of %s: %v", counts[what], what, counts)
		}
	}
}

func spansOfBatches(what string, batches [][]impl.Cmd) []span {
	out := []span{spanOf(what, batches)}
	for _, cmds := range batches {
		out = append(out, spansOfCmds("Cmds of "+what, cmds)...)
	}
	return out
}

func spansOfCells(cells []impl.Cell) []span {
	out := []span{spanOf("Cells", cells)}
	for _, cell := range cells {
		out = append(out, textSpan("a key of Cells", cell.Key))
	}
	return out
}

// withKeys has keys of its own, so that none that is shared goes unseen.
func withKeys(cmds []impl.Cmd) []impl.Cmd {
	out := slices.Clone(cmds)
	for i := range out {
		out[i].Key = strings.Clone(out[i].Key)
	}
	return out
}

// roomyBatches have spare room behind every list, in which something stands.
func roomyBatches(batches [][]impl.Cmd) [][]impl.Cmd {
	var out [][]impl.Cmd
	for _, cmds := range batches {
		out = append(out, roomyBlock(impl.Block{Cmds: withKeys(cmds)}).Cmds)
	}
	return append(out, []impl.Cmd{{Kind: -7}}, []impl.Cmd{{Kind: -7}})[:len(batches)]
}

// wholeBatches tells of roomy ones the spare room, too.
func wholeBatches(batches [][]impl.Cmd) [][]impl.Cmd {
	var out [][]impl.Cmd
	for _, cmds := range batches[:cap(batches)] {
		out = append(out, slices.Clone(cmds[:cap(cmds)]))
	}
	return out
}

func soilBatches(batches [][]impl.Cmd) {
	for i, cmds := range batches {
		soilCmds(cmds)
		batches[i] = nil
	}
	clear(batches[:cap(batches)])
}

// No cluster is changed, nor the spare room behind its lists, nor is that room looked at; the answers' memory is their own, list by list.
func TestSameOwnMemory(t *testing.T) {
	told := 0
	for i, c := range append(memoryClusters(t), sameClusters(t)...) {
		if i%2 > 0 {
			continue
		}
		// The Row may name a block twice.
		if len(c.Peers) > 0 && i%4 == 0 {
			c = withPeerAt(c, len(c.Peers)-1, impl.Peer{Row: []int{1, 2, 1, 3, 3, 2, 0, 1}})
		}
		asked := roomyCluster(c)
		for k := range asked.Tree {
			copy(asked.Tree[k].Cmds, withKeys(asked.Tree[k].Cmds))
		}
		was, spans := wholeCluster(asked), spansOf(asked)
		holdSameByTheWords(t, asked)
		row, batches, cells := impl.RowOf(asked), impl.BatchesOf(asked), impl.CellsOf(asked)
		answer := slices.Concat([]span{spanOf("Row", row)}, spansOfBatches("Batches", batches), spansOfCells(cells))
		answer = slices.DeleteFunc(answer, func(s span) bool { return s.from == s.end })
		if both := sharing(answer, spans); both != "" {
			t.Fatalf("of\n%+v\n%s share memory", c, both)
		}
		told += len(batches)
		soilNumbers(row)
		soilBatches(batches)
		soil(cells)
		if !sameCluster(wholeCluster(asked), was) {
			t.Fatalf("what was handed in is changed:\n%+v, was\n%+v", wholeCluster(asked), was)
		}
	}
	if told < 500 {
		t.Errorf("only %d batches are told", told)
	}
}

// Batches that are handed in stay as they are, and nothing that is answered shares memory with them, nor are two that stand in one memory so in the answer.
func TestReplayedOwnMemory(t *testing.T) {
	for seed := range uint32(60) {
		draw := drawn(seed*991 + 3)
		var batches [][]impl.Cmd
		for range draw(8) {
			batches = append(batches, drawnBatch(draw))
		}
		if seed%6 == 0 && len(batches) > 0 {
			batches[draw(len(batches))] = wrongCmds()[seed%20 : seed%20+2]
		}
		asked := roomyBatches(batches)
		if seed%4 == 0 && len(asked) > 1 {
			asked[0] = asked[len(asked)-1]
			batches[0] = batches[len(asked)-1]
		}
		was := wholeBatches(asked)
		for _, chain := range []bool{false, true} {
			n := 1 + draw(7)
			got, ok := impl.Replayed(n, chain, asked)
			if want, wantOk := plainReplayed(n, chain, batches); ok != wantOk || !sameCluster(got, want) {
				t.Fatalf("Replayed(%d, %v, %v) is\n%+v, %v", n, chain, batches, got, ok)
			}
			// Those of one memory count once.
			spans := spansOfBatches("batches", asked[min(1, len(asked)):])
			if both := sharing(spansOf(got), spans); both != "" {
				t.Fatalf("Replayed(%d, %v, %v): %s share memory", n, chain, batches, both)
			}
			soilCluster(got)
			if !slices.EqualFunc(wholeBatches(asked), was, slices.Equal) {
				t.Fatalf("Replayed changes what was handed in: %v, was %v", wholeBatches(asked), was)
			}
		}
		// The same in front, with something else behind it.
		if !impl.SameBatches(asked, batches) || !impl.SameBatches(batches, asked) || !impl.SameBatches(asked, asked) || !slices.EqualFunc(wholeBatches(asked), was, slices.Equal) {
			t.Fatalf("SameBatches of %v: %v, was %v", batches, wholeBatches(asked), was)
		}
	}
}

// Nothing is kept from one call to another.
func TestSameAnswersTheSameEachTime(t *testing.T) {
	for _, chain := range []bool{false, true} {
		batches := [][]impl.Cmd{{set("a", 1), set("b", 2)}, {add("a", 1)}, {take("b", 5)}}
		want := holdReplayed(t, 4, chain, batches)
		notReplayed(t, 4, []impl.Cmd{{}})
		for range 4 {
			if got := holdReplayed(t, 4, chain, batches); !sameCluster(got, want) {
				t.Fatalf("Replayed is\n%+v, was\n%+v", got, want)
			}
			notReplayed(t, 4, nil, batches[0])
			holdSameByTheWords(t, want)
			holdSame(t, batches, batches[:2], false)
			holdSame(t, batches, slices.Clone(batches), true)
		}
	}
}

// Several may ask at the same time, of one cluster and of one list of batches.
func TestSameAtTheSameTime(t *testing.T) {
	batches := [][]impl.Cmd{{set("a", 1), set("b", 2)}, {add("a", 1)}, {take("b", 5)}}
	for _, chain := range []bool{false, true} {
		c := holdReplayed(t, 4, chain, batches)
		wrong := make(chan bool, 12)
		for range cap(wrong) {
			go func() {
				got, ok := impl.Replayed(4, chain, batches)
				wrong <- !ok || !sameCluster(got, c) || !slices.Equal(impl.RowOf(c), plainRowOf(c)) || !impl.SameBatches(impl.BatchesOf(c), batches) || !slices.Equal(impl.CellsOf(c), plainMade(batches))
			}()
		}
		for range cap(wrong) {
			if <-wrong {
				t.Errorf("with chain %v, one answers otherwise", chain)
			}
		}
	}
}

// The chapter 'Ways': batches are kept in a list: a struct of them points to the one behind it, and each function of batches goes along these pointers. (Rule 1 of the language bars container/list.)
func TestBatchesAreKeptInAList(t *testing.T) {
	file, err := parser.ParseFile(token.NewFileSet(), "../impl/l18_same.go", nil, 0)
	if err != nil {
		t.Fatal(err)
	}
	for _, i := range file.Imports {
		if strings.HasPrefix(i.Path.Value, `"container/`) {
			t.Errorf("%s is imported", i.Path.Value)
		}
	}
	pointer := pointerToItsKind(file)
	if pointer == "" {
		t.Fatal("no struct points to another one of its kind")
	}
	functions, along := map[string]*ast.FuncDecl{}, map[string]bool{}
	for _, d := range file.Decls {
		if f, ok := d.(*ast.FuncDecl); ok {
			functions[f.Name.Name] = f
			along[f.Name.Name] = goesAlong(f, pointer)
		}
	}
	for _, from := range []string{"BatchesOf", "Replayed", "SameBatches"} {
		reached, found := []string{from}, false
		for i := 0; i < len(reached); i++ {
			found = found || along[reached[i]]
			ast.Inspect(functions[reached[i]], func(n ast.Node) bool {
				if name, ok := n.(*ast.Ident); ok && functions[name.Name] != nil && !slices.Contains(reached, name.Name) {
					reached = append(reached, name.Name)
				}
				return true
			})
		}
		if !found {
			t.Errorf("%s goes along no list", from)
		}
	}
}

// pointerToItsKind is the name of a field by which a struct with commands points to another one like it.
func pointerToItsKind(file *ast.File) string {
	found := ""
	ast.Inspect(file, func(n ast.Node) bool {
		spec, ok := n.(*ast.TypeSpec)
		if !ok {
			return true
		}
		fields, ok := spec.Type.(*ast.StructType)
		if !ok {
			return true
		}
		name, cmds := "", false
		for _, f := range fields.Fields.List {
			switch of := f.Type.(type) {
			case *ast.StarExpr:
				if to, ok := of.X.(*ast.Ident); ok && to.Name == spec.Name.Name {
					name = f.Names[0].Name
				}
			case *ast.ArrayType:
				to, ok := of.Elt.(*ast.Ident)
				cmds = cmds || ok && to.Name == "Cmd"
			}
		}
		if cmds && name != "" {
			found = name
		}
		return true
	})
	return found
}

// goesAlong tells whether a loop of the function goes on by this pointer.
func goesAlong(f *ast.FuncDecl, pointer string) bool {
	found := false
	ast.Inspect(f, func(n ast.Node) bool {
		loop, ok := n.(*ast.ForStmt)
		if !ok {
			return true
		}
		ast.Inspect(loop, func(n ast.Node) bool {
			step, ok := n.(*ast.AssignStmt)
			if !ok {
				return true
			}
			for _, e := range step.Rhs {
				on, ok := e.(*ast.SelectorExpr)
				found = found || ok && on.Sel.Name == pointer
			}
			return true
		})
		return true
	})
	return found
}
