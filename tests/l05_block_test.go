package tests

import (
	"math"
	"slices"
	"strings"
	"testing"
	"unsafe"

	"loop.example/g00330/impl"
)

// on is a block that is right on this place of the tree, when its View and its Cmds are.
func on(tree []impl.Block, parent int, view int, cmds ...impl.Cmd) impl.Block {
	return impl.Block{Parent: parent, View: view, Cmds: cmds, Just: impl.Qc{Phase: impl.PhChain, View: tree[parent].View, Block: parent, Signers: 7}}
}

func first() impl.Block {
	return impl.Block{Parent: -1}
}

// rowWith is a tree of so many blocks, each one on the one ahead of it.
func rowWith(size int) []impl.Block {
	tree := []impl.Block{first()}
	for len(tree) < size {
		last := len(tree) - 1
		tree = append(tree, on(tree, last, tree[last].View+2, set("a", last)))
	}
	return tree
}

// bushWith is a tree of so many blocks in which many stand on one, some of them of one View, or of lesser ones than those ahead of them.
func bushWith(size int) []impl.Block {
	tree := []impl.Block{first()}
	for i := 1; len(tree) < size; i++ {
		parent := (len(tree) - 1) / 3
		tree = append(tree, on(tree, parent, tree[parent].View+1+(4-i%4), add("b", i)))
	}
	return tree
}

func rightTrees() [][]impl.Block {
	two := rowWith(2)
	twins := append(rowWith(2), on(two, 1, 7), on(two, 1, 8), on(two, 0, 7), on(two, 1, 7, set("a", 1)), on(two, 0, impl.MaxView))
	four := rowWith(1)
	four = append(four, on(four, 0, 1, set("a", 0), add("b", impl.MaxNumber), take("zzz", 1), set("a", 0)), on(four, 0, 1, []impl.Cmd{}...))
	return [][]impl.Block{
		{first()}, {{Parent: -1, Cmds: []impl.Cmd{}}}, two, rowWith(3), rowWith(7), bushWith(4), bushWith(20), twins, four,
		rowWith(impl.MaxBlocks - 1), rowWith(impl.MaxBlocks), bushWith(impl.MaxBlocks - 1), bushWith(impl.MaxBlocks),
	}
}

// wrongFirsts are each but one thing away from the first block.
func wrongFirsts() []impl.Block {
	return []impl.Block{
		{}, {Parent: -2}, {Parent: math.MinInt}, {Parent: 1}, {Parent: -1, View: 1}, {Parent: -1, View: -1},
		{Parent: -1, Cmds: []impl.Cmd{set("a", 1)}}, {Parent: -1, Cmds: []impl.Cmd{{}}},
		{Parent: -1, Just: impl.Qc{Phase: 1}}, {Parent: -1, Just: impl.Qc{View: 1}}, {Parent: -1, Just: impl.Qc{Block: -1}}, {Parent: -1, Just: impl.Qc{Signers: 1}},
	}
}

func wrongTrees() [][]impl.Block {
	row := rowWith(5)
	trees := [][]impl.Block{
		nil, {}, row[1:], {row[1]}, rowWith(impl.MaxBlocks + 1), rowWith(impl.MaxBlocks + 7), bushWith(impl.MaxBlocks + 1),
		{first(), first()},
		append(rowWith(3), first()),
		{first(), row[2], row[1]},
		{first(), row[1], row[3], row[2]},
		{row[1], first()},
		{first(), row[1], row[1]},
		append(rowWith(5), row[4]),
		append(rowWith(5), row[1]),
		{first(), row[1], row[2], row[1], row[3]},
		append(rowWith(impl.MaxBlocks-1), row[1]),
		{first(), {Parent: 1, View: 1, Just: impl.Qc{Block: 1, View: 1}}},
		{first(), {Parent: 0, View: 0}},
		{first(), {Parent: 0, View: -1}},
		{first(), {Parent: -1, View: 1, Just: impl.Qc{Block: -1}}},
	}
	for _, b := range wrongFirsts() {
		trees = append(trees, []impl.Block{b}, append([]impl.Block{b}, row[1:]...))
	}
	for _, b := range wrongOn(row, 4) {
		trees = append(trees, append(rowWith(5), b))
	}
	// One that is not right between those that are.
	wrong := rowWith(5)
	wrong[2].Cmds = []impl.Cmd{set("A", 1)}
	return append(trees, wrong)
}

// wrongOn are blocks on this place of a tree that are each but one thing away from a right one.
func wrongOn(tree []impl.Block, parent int) []impl.Block {
	var out []impl.Block
	view := tree[parent].View + 1
	for _, turned := range []func(*impl.Block){
		func(b *impl.Block) { b.View-- },
		func(b *impl.Block) { b.View -= 2 },
		func(b *impl.Block) { b.View = -1 },
		func(b *impl.Block) { b.View = impl.MaxView + 1 },
		func(b *impl.Block) { b.View = math.MaxInt },
		func(b *impl.Block) { b.View = math.MinInt },
		func(b *impl.Block) { b.Parent = -1 },
		func(b *impl.Block) { b.Parent, b.Just.Block = -1, -1 },
		func(b *impl.Block) { b.Parent, b.Just = -1, impl.Qc{Block: -1} },
		func(b *impl.Block) { b.Parent, b.Just.Block = len(tree), len(tree) },
		func(b *impl.Block) { b.Parent, b.Just.Block = len(tree)+1, len(tree)+1 },
		func(b *impl.Block) { b.Parent, b.Just.Block = math.MaxInt, math.MaxInt },
		func(b *impl.Block) { b.Parent, b.Just.Block = math.MinInt, math.MinInt },
		func(b *impl.Block) { b.Just.Block++ },
		func(b *impl.Block) { b.Just.Block-- },
		func(b *impl.Block) { b.Just.View++ },
		func(b *impl.Block) { b.Just.View-- },
		func(b *impl.Block) { b.Just.View = b.View },
		func(b *impl.Block) { b.Cmds = append(b.Cmds, set("a", 1), set("b", 1), set("c", 1), set("d", 1)) },
		func(b *impl.Block) { b.Cmds = make([]impl.Cmd, impl.MaxCmds) },
		func(b *impl.Block) { b.Cmds[0].Kind = 0 },
		func(b *impl.Block) { b.Cmds[0].Key = "abcd" },
		func(b *impl.Block) { b.Cmds[0].Num = -1 },
		func(b *impl.Block) { b.Cmds[0].Num = impl.MaxNumber + 1 },
	} {
		b := on(tree, parent, view, set("a", 1))
		turned(&b)
		out = append(out, b)
	}
	return out
}

// someBlocks are blocks, right and not, to be asked for and put on each of the trees.
func someBlocks() []impl.Block {
	row := rowWith(5)
	out := slices.Concat(row, bushWith(6), wrongFirsts(), wrongOn(row, 0), wrongOn(row, 4))
	for _, view := range []int{0, 1, 2, 3, 5, 8, 9, impl.MaxView, impl.MaxView + 1} {
		for parent := range row {
			out = append(out, on(row, parent, view), on(row, parent, view, set("q", view), take("q", 1)))
		}
	}
	return append(out, on(rowWith(impl.MaxBlocks), impl.MaxBlocks-1, 200), on(rowWith(impl.MaxBlocks-1), impl.MaxBlocks-2, 200))
}

// turnedBlocks are each but one field away from that block: of it, of its Just, or of a command.
func turnedBlocks(b impl.Block) map[string]impl.Block {
	out := map[string]impl.Block{}
	for name, turned := range map[string]func(*impl.Block){
		"Parent":       func(b *impl.Block) { b.Parent++ },
		"View":         func(b *impl.Block) { b.View++ },
		"Just.Phase":   func(b *impl.Block) { b.Just.Phase++ },
		"Just.View":    func(b *impl.Block) { b.Just.View++ },
		"Just.Block":   func(b *impl.Block) { b.Just.Block++ },
		"Just.Signers": func(b *impl.Block) { b.Just.Signers++ },
		"one more":     func(b *impl.Block) { b.Cmds = append(b.Cmds, b.Cmds[0]) },
		"one less":     func(b *impl.Block) { b.Cmds = b.Cmds[:len(b.Cmds)-1] },
		"none":         func(b *impl.Block) { b.Cmds = nil },
		"order":        func(b *impl.Block) { slices.Reverse(b.Cmds) },
		"first Kind":   func(b *impl.Block) { b.Cmds[0].Kind++ },
		"first Key":    func(b *impl.Block) { b.Cmds[0].Key += "x" },
		"first Num":    func(b *impl.Block) { b.Cmds[0].Num++ },
		"last Kind":    func(b *impl.Block) { b.Cmds[len(b.Cmds)-1].Kind-- },
		"last Key":     func(b *impl.Block) { b.Cmds[len(b.Cmds)-1].Key = "" },
		"last Num":     func(b *impl.Block) { b.Cmds[len(b.Cmds)-1].Num = -1 },
	} {
		other := copyOf(b)
		turned(&other)
		out[name] = other
	}
	return out
}

func copyOf(b impl.Block) impl.Block {
	b.Cmds = slices.Clone(b.Cmds)
	return b
}

func copyTree(tree []impl.Block) []impl.Block {
	var out []impl.Block
	for _, b := range tree {
		out = append(out, copyOf(b))
	}
	return out
}

// plainSame, plainAt, plainBlockOk, plainTreeOk and plainPut are the chapter's own words, on the list itself.
func plainSame(a impl.Block, b impl.Block) bool {
	if a.Parent != b.Parent || a.View != b.View || len(a.Cmds) != len(b.Cmds) {
		return false
	}
	for i := range a.Cmds {
		if a.Cmds[i].Kind != b.Cmds[i].Kind || a.Cmds[i].Key != b.Cmds[i].Key || a.Cmds[i].Num != b.Cmds[i].Num {
			return false
		}
	}
	return a.Just.Phase == b.Just.Phase && a.Just.View == b.Just.View && a.Just.Block == b.Just.Block && a.Just.Signers == b.Just.Signers
}

func plainAt(tree []impl.Block, b impl.Block) int {
	return slices.IndexFunc(tree, func(other impl.Block) bool { return plainSame(other, b) })
}

func plainBlockOk(tree []impl.Block, b impl.Block) bool {
	if b.Parent < 0 || b.Parent >= len(tree) {
		return false
	}
	parent := tree[b.Parent]
	if b.View <= parent.View || b.View > impl.MaxView || len(b.Cmds) > impl.MaxCmds {
		return false
	}
	for _, c := range b.Cmds {
		if !impl.CmdOk(c) {
			return false
		}
	}
	return b.Just.Block == b.Parent && b.Just.View == parent.View
}

func plainTreeOk(tree []impl.Block) bool {
	if len(tree) == 0 || len(tree) > impl.MaxBlocks || !plainSame(tree[0], first()) {
		return false
	}
	for i, b := range tree {
		if i > 0 && !plainBlockOk(tree[:i], b) || plainAt(tree, b) != i {
			return false
		}
	}
	return true
}

func plainPut(tree []impl.Block, b impl.Block) ([]impl.Block, int) {
	if at := plainAt(tree, b); at >= 0 {
		return tree, at
	}
	if !plainBlockOk(tree, b) || len(tree) >= impl.MaxBlocks {
		return tree, -1
	}
	return append(copyTree(tree), b), len(tree)
}

func sameTree(a []impl.Block, b []impl.Block) bool {
	return slices.EqualFunc(a, b, plainSame)
}

func holdPut(t *testing.T, tree []impl.Block, b impl.Block, want []impl.Block, at int) {
	t.Helper()
	if got, told := impl.PutBlock(tree, b); told != at || !sameTree(got, want) {
		t.Errorf("PutBlock(%.300v, %.60v) = %.300v, %d, want %.300v, %d", tree, b, got, told, want, at)
	}
}

// putNew puts a block that is not there, and holds all that promise 5 says of it.
func putNew(t *testing.T, tree []impl.Block, b impl.Block) []impl.Block {
	t.Helper()
	if impl.BlockAt(tree, b) != -1 || !impl.BlockOk(tree, b) {
		t.Fatalf("of %d blocks, %v is at %d, and BlockOk is %v", len(tree), b, impl.BlockAt(tree, b), impl.BlockOk(tree, b))
	}
	was := copyTree(tree)
	more, at := impl.PutBlock(tree, b)
	if at != len(was) || len(more) != at+1 || !plainSame(more[at], b) {
		t.Fatalf("%v is put behind %d blocks: %d, of %d", b, len(was), at, len(more))
	}
	if !sameTree(more[:at], was) || !sameTree(tree, was) {
		t.Fatalf("those ahead of %v are not as they were: %v", b, more)
	}
	if impl.BlockAt(more, b) != at || more[at].Parent < 0 || more[at].Parent >= at || !impl.TreeOk(more) {
		t.Fatalf("%v is at %d, want %d, and TreeOk is %v", b, impl.BlockAt(more, b), at, impl.TreeOk(more))
	}
	return more
}

func TestBlockConstants(t *testing.T) {
	if impl.MaxBlocks != 60 || impl.MaxCmds != 4 || impl.MaxView != 900 {
		t.Error("a constant is not the document's")
	}
}

func TestFirstBlock(t *testing.T) {
	if b := impl.FirstBlock(); b.Parent != -1 || b.View != 0 || len(b.Cmds) != 0 || b.Just != (impl.Qc{}) {
		t.Errorf("FirstBlock() = %v", b)
	}
	if tree := impl.TreeNew(); !sameTree(tree, []impl.Block{first()}) || !impl.TreeOk(tree) {
		t.Errorf("TreeNew() = %v", tree)
	}
	// It stands on nothing: it is the first one, and never put.
	for _, tree := range append(rightTrees(), wrongTrees()...) {
		if impl.BlockOk(tree, impl.FirstBlock()) {
			t.Errorf("BlockOk(%.60v, the first block) is true", tree)
		}
	}
	holdPut(t, nil, first(), nil, -1)
	holdPut(t, []impl.Block{}, first(), nil, -1)
}

func TestFirstBlocksAreNew(t *testing.T) {
	b, tree := impl.FirstBlock(), impl.TreeNew()
	b.Parent, b.View, b.Just.View, b.Cmds = 5, 6, 7, append(b.Cmds, set("x", 1))
	soilTree(tree)
	soilCmds(b.Cmds)
	if b := impl.FirstBlock(); !plainSame(b, first()) {
		t.Errorf("FirstBlock() is %v behind another one that was written into", b)
	}
	if tree := impl.TreeNew(); !sameTree(tree, []impl.Block{first()}) {
		t.Errorf("TreeNew() is %v behind another one that was written into", tree)
	}
}

func TestBlockOkViews(t *testing.T) {
	tree := append(rowWith(3), on(rowWith(3), 2, impl.MaxView-1), on(rowWith(3), 2, impl.MaxView))
	for _, c := range []struct {
		parent, view int
		want         bool
	}{
		{0, 0, false}, {0, 1, true}, {0, 2, true}, {0, impl.MaxView, true}, {0, impl.MaxView + 1, false}, {0, -1, false},
		{1, 1, false}, {1, 2, false}, {1, 3, true}, {1, impl.MaxView, true}, {1, impl.MaxView + 1, false},
		{2, 4, false}, {2, 5, true}, {3, impl.MaxView - 1, false}, {3, impl.MaxView, true}, {3, impl.MaxView + 1, false},
		{4, impl.MaxView, false}, {4, impl.MaxView + 1, false}, {4, math.MaxInt, false}, {4, math.MinInt, false},
	} {
		if got := impl.BlockOk(tree, on(tree, c.parent, c.view)); got != c.want {
			t.Errorf("BlockOk of View %d on View %d is %v", c.view, tree[c.parent].View, got)
		}
	}
}

func TestBlockOkParents(t *testing.T) {
	for _, tree := range rightTrees() {
		for parent := range tree {
			b := on(tree, parent, impl.MaxView)
			if got, want := impl.BlockOk(tree, b), tree[parent].View < impl.MaxView; got != want {
				t.Errorf("BlockOk on the place %d of %d is %v", parent, len(tree), got)
			}
			// A tree that ends ahead of the Parent has no such place.
			if impl.BlockOk(tree[:parent], b) {
				t.Errorf("BlockOk on the place %d of %d is true", parent, parent)
			}
		}
		for _, parent := range []int{-1, -2, len(tree), len(tree) + 1, math.MaxInt, math.MinInt} {
			for _, just := range []impl.Qc{{}, {Block: parent}, {Block: parent, View: tree[len(tree)-1].View}} {
				if impl.BlockOk(tree, impl.Block{Parent: parent, View: impl.MaxView, Just: just}) {
					t.Errorf("BlockOk on the place %d of %d is true", parent, len(tree))
				}
			}
		}
	}
	for _, tree := range [][]impl.Block{nil, {}} {
		if impl.BlockOk(tree, impl.Block{View: 1}) || impl.BlockOk(tree, first()) || impl.BlockOk(tree, impl.Block{}) {
			t.Error("BlockOk is true in an empty tree")
		}
	}
}

func TestBlockOkJust(t *testing.T) {
	tree := rowWith(4)
	for block := -2; block < 7; block++ {
		for view := -2; view < 12; view++ {
			b := on(tree, 2, 9)
			b.Just.Block, b.Just.View = block, view
			if got, want := impl.BlockOk(tree, b), block == 2 && view == 4; got != want {
				t.Errorf("BlockOk with Just %v on the place 2, of View 4, is %v", b.Just, got)
			}
		}
	}
	// Its Phase and its Signers are not looked at.
	for _, num := range []int{0, 1, 5, -1, math.MaxInt, math.MinInt} {
		b := on(tree, 2, 9)
		b.Just.Phase, b.Just.Signers = num, -num
		if !impl.BlockOk(tree, b) {
			t.Errorf("BlockOk with Just %v is false", b.Just)
		}
	}
}

func TestBlockOkCmds(t *testing.T) {
	tree := rowWith(2)
	var cmds []impl.Cmd
	for n := range impl.MaxCmds + 3 {
		if got, want := impl.BlockOk(tree, on(tree, 1, 3, cmds...)), n <= impl.MaxCmds; got != want {
			t.Errorf("BlockOk with %d Cmds is %v", n, got)
		}
		cmds = append(cmds, set("a", 1))
	}
	if !impl.BlockOk(tree, on(tree, 1, 3, []impl.Cmd{}...)) || !impl.BlockOk(tree, on(tree, 1, 3)) {
		t.Error("BlockOk without Cmds is false")
	}
	for _, c := range rightCmds() {
		if !impl.BlockOk(tree, on(tree, 1, 3, c, c, c, c)) {
			t.Errorf("BlockOk with %v is false", c)
		}
	}
	for _, c := range wrongCmds() {
		for at := range impl.MaxCmds {
			cmds := slices.Clone(cmds[:impl.MaxCmds])
			cmds[at] = c
			if impl.BlockOk(tree, on(tree, 1, 3, cmds...)) || impl.BlockOk(tree, on(tree, 1, 3, c)) {
				t.Errorf("BlockOk with %.40v at %d is true", c, at)
			}
		}
	}
}

// A block that is there is right as it was; BlockOk asks for no room, and for no tree that is right.
func TestBlockOkByTheWords(t *testing.T) {
	right := 0
	for _, tree := range append(rightTrees(), wrongTrees()...) {
		for _, b := range slices.Concat(someBlocks(), tree) {
			want := plainBlockOk(tree, b)
			if got := impl.BlockOk(tree, b); got != want {
				t.Errorf("BlockOk(%.300v, %.60v) = %v", tree, b, got)
			}
			if want {
				right++
			}
		}
	}
	if right < 1000 {
		t.Errorf("only %d of the blocks are right", right)
	}
	below := []impl.Block{{Parent: -1, View: -5}, {Parent: 1, View: impl.MaxView + 5}}
	if !impl.BlockOk(below, on(below, 0, -4)) || impl.BlockOk(below, on(below, 0, -5)) || impl.BlockOk(below, on(below, 1, impl.MaxView+6)) {
		t.Error("BlockOk looks at a tree that is not right in another way than it says")
	}
}

func TestSameBlock(t *testing.T) {
	tree := rowWith(3)
	for _, b := range []impl.Block{
		on(tree, 2, 5, set("a", 1), add("b", 2), take("c", 3)),
		{Parent: -7, View: -8, Cmds: []impl.Cmd{{Kind: -1, Key: "LONG", Num: -2}, {Kind: 9, Key: "x", Num: 8}}, Just: impl.Qc{Phase: -1, View: -2, Block: -3, Signers: -4}},
	} {
		if !impl.SameBlock(b, b) || !impl.SameBlock(b, copyOf(b)) || !impl.SameBlock(copyOf(b), b) {
			t.Errorf("%v is not the same as itself", b)
		}
		for name, other := range turnedBlocks(b) {
			if impl.SameBlock(b, other) || impl.SameBlock(other, b) {
				t.Errorf("%v and %v are the same, whose %s is another one", b, other, name)
			}
			if !impl.SameBlock(other, copyOf(other)) {
				t.Errorf("%v is not the same as itself", other)
			}
		}
	}
	if a, b := (impl.Block{Cmds: []impl.Cmd{}}), (impl.Block{}); !impl.SameBlock(a, b) || !impl.SameBlock(b, a) {
		t.Error("Cmds that are empty and nil are not the same")
	}
	if impl.SameBlock(impl.Block{}, impl.FirstBlock()) || !impl.SameBlock(impl.FirstBlock(), first()) {
		t.Error("the first block is not what it is")
	}
	many := someBlocks()
	for _, a := range many {
		for _, b := range many {
			if got := impl.SameBlock(a, b); got != plainSame(a, b) {
				t.Errorf("SameBlock(%.60v, %.60v) = %v", a, b, got)
			}
		}
	}
}

func TestSameBlockLooksAtAllCmds(t *testing.T) {
	long := impl.Block{Cmds: make([]impl.Cmd, 40)}
	for i := range long.Cmds {
		other := copyOf(long)
		other.Cmds[i].Num = 1
		if impl.SameBlock(long, other) || impl.SameBlock(other, long) || impl.BlockAt([]impl.Block{long, other}, other) != 1 {
			t.Errorf("a command at %d that is another one is not seen", i)
		}
		short := impl.Block{Cmds: long.Cmds[:i]}
		if impl.SameBlock(long, short) || impl.SameBlock(short, long) {
			t.Errorf("a block of %d Cmds, and one of %d: both are the same", len(long.Cmds), i)
		}
	}
}

func TestBlockAt(t *testing.T) {
	for _, tree := range rightTrees() {
		for i, b := range tree {
			if got := impl.BlockAt(tree, copyOf(b)); got != i {
				t.Errorf("BlockAt(%d blocks, the one at %d) = %d", len(tree), i, got)
			}
			if got := impl.BlockAt(tree[:i], b); got != -1 {
				t.Errorf("BlockAt(%d blocks, the next one) = %d", i, got)
			}
		}
	}
	for _, tree := range append(rightTrees(), wrongTrees()...) {
		for _, b := range slices.Concat(someBlocks(), tree) {
			if got, want := impl.BlockAt(tree, b), plainAt(tree, b); got != want {
				t.Errorf("BlockAt(%.300v, %.60v) = %d, want %d", tree, b, got, want)
			}
		}
	}
	twice := []impl.Block{{View: 3}, {View: 9}, {View: 3}, {View: 9, Cmds: []impl.Cmd{}}, {View: 4}}
	for view, want := range map[int]int{3: 0, 9: 1, 4: 4, 5: -1} {
		if got := impl.BlockAt(twice, impl.Block{View: view}); got != want {
			t.Errorf("BlockAt(%v, of View %d) = %d, want %d", twice, view, got, want)
		}
	}
}

func TestTreeOk(t *testing.T) {
	for _, tree := range rightTrees() {
		if !plainTreeOk(tree) || !impl.TreeOk(tree) {
			t.Errorf("TreeOk(%.300v) is false", tree)
		}
	}
	for _, tree := range wrongTrees() {
		if plainTreeOk(tree) || impl.TreeOk(tree) {
			t.Errorf("TreeOk(%.300v) is true", tree)
		}
	}
	for size := range impl.MaxBlocks + 4 {
		if got, want := impl.TreeOk(rowWith(max(size, 1))[:size]), size >= 1 && size <= impl.MaxBlocks; got != want {
			t.Errorf("TreeOk of %d blocks is %v", size, got)
		}
	}
}

// What is wrong is seen at each place of a tree.
func TestTreeOkLooksAtEachPlace(t *testing.T) {
	for _, tree := range [][]impl.Block{rowWith(9), bushWith(9), rowWith(impl.MaxBlocks), bushWith(impl.MaxBlocks)} {
		for i := range tree {
			for _, turned := range []func(*impl.Block){
				func(b *impl.Block) { b.View = impl.MaxView + 1 },
				func(b *impl.Block) { b.Just.View-- },
				func(b *impl.Block) { b.Just.Block++ },
				func(b *impl.Block) { b.Parent, b.Just.Block = i, i },
				func(b *impl.Block) { b.Cmds = []impl.Cmd{{}} },
				func(b *impl.Block) { b.Parent = -3 },
				func(b *impl.Block) { *b = tree[(i+3)%len(tree)] },
				func(b *impl.Block) { *b = tree[(i+1)%len(tree)] },
			} {
				wrong := copyTree(tree)
				turned(&wrong[i])
				if plainTreeOk(wrong) || impl.TreeOk(wrong) {
					t.Errorf("TreeOk is true of %d blocks with %v at %d", len(wrong), wrong[i], i)
				}
			}
		}
	}
}

func TestTreeOkSameBlocks(t *testing.T) {
	b := on(rowWith(1), 0, 1, set("a", 1))
	tree := []impl.Block{first(), b}
	for name, other := range turnedBlocks(b) {
		want := plainTreeOk(append(tree, other))
		if got := impl.TreeOk(append(tree, other)); got != want {
			t.Errorf("TreeOk is %v with a block whose %s alone is another one", got, name)
		}
	}
	for i := range impl.MaxBlocks - 1 {
		for _, tree := range [][]impl.Block{rowWith(i + 1), bushWith(i + 1)} {
			for at := range tree {
				if impl.TreeOk(append(copyTree(tree), copyOf(tree[at]))) {
					t.Errorf("TreeOk is true of %d blocks and the one at %d again", len(tree), at)
				}
			}
		}
	}
	empty := on(rowWith(1), 0, 1)
	empty.Cmds = []impl.Cmd{}
	if impl.TreeOk([]impl.Block{first(), on(rowWith(1), 0, 1), empty}) {
		t.Error("TreeOk is true of two blocks whose Cmds are nil, and empty")
	}
}

func TestPutBlockBuildsTrees(t *testing.T) {
	for _, want := range rightTrees() {
		tree := impl.TreeNew()
		for _, b := range want[1:] {
			tree = putNew(t, tree, b)
			// Whatever is put again, the tree stays.
			for i, there := range tree {
				holdPut(t, tree, copyOf(there), want[:len(tree)], i)
			}
		}
		if !sameTree(tree, want) {
			t.Errorf("the tree is %.300v, want %.300v", tree, want)
		}
	}
}

// Blocks that differ in one field alone are all put, where they are right.
func TestPutBlockOfTwins(t *testing.T) {
	base := rowWith(3)
	b := on(base, 2, 6, set("a", 1), add("b", 2))
	tree := putNew(t, base, b)
	for _, turned := range []func(*impl.Block){
		func(b *impl.Block) { b.View++ },
		func(b *impl.Block) { b.Parent, b.Just.Block, b.Just.View = 1, 1, 2 },
		func(b *impl.Block) { b.Just.Phase = impl.PhOne },
		func(b *impl.Block) { b.Just.Signers = 11 },
		func(b *impl.Block) { b.Cmds = nil },
		func(b *impl.Block) { b.Cmds = b.Cmds[:1] },
		func(b *impl.Block) { b.Cmds = append(b.Cmds, b.Cmds[1]) },
		func(b *impl.Block) { slices.Reverse(b.Cmds) },
		func(b *impl.Block) { b.Cmds[1].Kind = impl.CmdTake },
		func(b *impl.Block) { b.Cmds[1].Key = "bb" },
		func(b *impl.Block) { b.Cmds[1].Num = 3 },
	} {
		other := copyOf(b)
		turned(&other)
		tree = putNew(t, tree, other)
	}
	holdPut(t, tree, b, tree, 3)
}

func TestPutBlockWithoutCmds(t *testing.T) {
	tree := putNew(t, impl.TreeNew(), impl.Block{View: 1})
	holdPut(t, tree, impl.Block{View: 1, Cmds: []impl.Cmd{}}, tree, 1)
	tree = putNew(t, impl.TreeNew(), impl.Block{View: 1, Cmds: []impl.Cmd{}})
	holdPut(t, tree, impl.Block{View: 1}, tree, 1)
	holdPut(t, tree, impl.Block{Parent: -1, Cmds: []impl.Cmd{}}, tree, 0)
}

func TestPutBlockThatIsThere(t *testing.T) {
	for _, tree := range append(rightTrees(), wrongTrees()...) {
		for _, b := range tree {
			holdPut(t, tree, copyOf(b), tree, plainAt(tree, b))
		}
	}
	// Right or not: the first one is never BlockOk, nor are these.
	row := rowWith(3)
	for _, b := range slices.Concat(wrongOn(row, 2), wrongFirsts()) {
		tree := append(rowWith(3), b, on(row, 0, 9))
		if impl.BlockOk(tree[:3], b) {
			t.Errorf("BlockOk of %v is true", b)
		}
		holdPut(t, tree, copyOf(b), tree, 3)
		holdPut(t, []impl.Block{b}, copyOf(b), []impl.Block{b}, 0)
		holdPut(t, []impl.Block{b, b, b}, copyOf(b), []impl.Block{b, b, b}, 0)
		full := rowWith(impl.MaxBlocks)
		full[impl.MaxBlocks-1] = b
		holdPut(t, full, copyOf(b), full, impl.MaxBlocks-1)
	}
}

func TestPutBlockThatIsNotRight(t *testing.T) {
	for _, tree := range rightTrees() {
		for parent := range tree {
			for _, b := range wrongOn(tree, parent) {
				if at := plainAt(tree, b); at < 0 && !plainBlockOk(tree, b) {
					holdPut(t, tree, b, tree, -1)
				}
			}
		}
		for _, b := range wrongFirsts() {
			holdPut(t, tree, b, tree, -1)
		}
		holdPut(t, tree, impl.Block{}, tree, -1)
	}
	for _, c := range wrongCmds() {
		holdPut(t, rowWith(2), on(rowWith(2), 1, 3, c), rowWith(2), -1)
	}
	for _, b := range someBlocks() {
		holdPut(t, nil, b, nil, -1)
		holdPut(t, []impl.Block{}, b, nil, -1)
	}
}

func TestPutBlockInAFullTree(t *testing.T) {
	for _, build := range []func(int) []impl.Block{rowWith, bushWith} {
		almost, full := build(impl.MaxBlocks-1), build(impl.MaxBlocks)
		b := on(almost, 1, 500, set("a", 1))
		tree := putNew(t, almost, b)
		if len(tree) != impl.MaxBlocks {
			t.Errorf("%d blocks, want MaxBlocks", len(tree))
		}
		for i, there := range tree {
			holdPut(t, tree, copyOf(there), tree, i)
		}
		for _, full := range [][]impl.Block{tree, full, build(impl.MaxBlocks + 1), build(impl.MaxBlocks + 9)} {
			for _, parent := range []int{0, 1, len(full) - 1} {
				b := on(full, parent, impl.MaxView)
				if !impl.BlockOk(full, b) {
					t.Errorf("BlockOk asks for room: %v", b)
				}
				holdPut(t, full, b, full, -1)
			}
		}
	}
}

func TestPutBlockByTheWords(t *testing.T) {
	for _, tree := range append(rightTrees(), wrongTrees()...) {
		for _, b := range someBlocks() {
			want, at := plainPut(tree, b)
			holdPut(t, tree, b, want, at)
		}
	}
}

// soilCmds and soilTree write over all that an answer has, its spare room too.
func soilCmds(cmds []impl.Cmd) {
	all := cmds[:cap(cmds)]
	for i := range all {
		all[i] = impl.Cmd{Kind: -9, Key: "soil", Num: -9}
	}
}

func soilTree(tree []impl.Block) {
	all := tree[:cap(tree)]
	for i := range all {
		soilCmds(all[i].Cmds)
		all[i] = impl.Block{Parent: -9, View: -9, Cmds: []impl.Cmd{{Kind: -9}}, Just: impl.Qc{Phase: -9}}
	}
}

// roomyTree is a copy of a tree with spare room of known contents behind it, and behind the Cmds of each block.
func roomyTree(tree []impl.Block) (whole, front []impl.Block) {
	for _, b := range tree {
		whole = append(whole, roomyBlock(b))
	}
	for range 3 {
		whole = append(whole, impl.Block{Parent: -7, View: -7, Cmds: []impl.Cmd{{Kind: -7, Key: "room"}}})
	}
	return whole, whole[:len(tree)]
}

func roomyBlock(b impl.Block) impl.Block {
	cmds := append(slices.Clone(b.Cmds), impl.Cmd{Kind: -7, Key: "room"}, impl.Cmd{Kind: -7, Key: "room"})
	b.Cmds = cmds[:len(b.Cmds)]
	return b
}

// wholeTree tells the blocks with what stands in the spare room behind their Cmds.
func wholeTree(tree []impl.Block) []impl.Block {
	var out []impl.Block
	for _, b := range tree {
		b.Cmds = slices.Clone(b.Cmds[:cap(b.Cmds)])
		out = append(out, b)
	}
	return out
}

func TestBlockArgumentsStay(t *testing.T) {
	for _, tree := range append(rightTrees(), wrongTrees()...) {
		for _, b := range append(someBlocks()[:30], on(append(tree, first()), 0, impl.MaxView, set("q", 1), add("q", 2))) {
			whole, front := roomyTree(tree)
			asked := []impl.Block{roomyBlock(b)}
			was, askedWas := wholeTree(whole), wholeTree(asked)
			got, at := impl.PutBlock(front, asked[0])
			impl.BlockAt(front, asked[0])
			impl.BlockOk(front, asked[0])
			impl.TreeOk(front)
			impl.SameBlock(asked[0], whole[0])
			want, place := plainPut(tree, b)
			if at != place || !sameTree(got, want) {
				t.Fatalf("PutBlock(%.300v, %v) = %.300v, %d", tree, b, got, at)
			}
			soilTree(got)
			if !sameTree(wholeTree(whole), was) || !sameTree(wholeTree(asked), askedWas) {
				t.Fatalf("an argument is changed: %v, %v, was %v, %v", whole, asked, was, askedWas)
			}
		}
	}
}

// What is written into an argument later is not seen in an answer.
func TestPutBlockKeepsNoArgument(t *testing.T) {
	for _, tree := range append(rightTrees(), wrongTrees()...) {
		for _, b := range append(someBlocks()[:30], on(append(tree, first()), 0, impl.MaxView, set("q", 1), add("q", 2))) {
			_, front := roomyTree(tree)
			asked := roomyBlock(b)
			got, _ := impl.PutBlock(front, asked)
			soilTree(front)
			soilCmds(asked.Cmds)
			if want, _ := plainPut(tree, b); !sameTree(got, want) {
				t.Fatalf("PutBlock(%.300v, %v) answers what is written into an argument: %.300v", tree, b, got)
			}
		}
	}
}

// One list under several blocks that are handed in is one for each block that is answered.
func TestPutBlockAnswersOwnCmds(t *testing.T) {
	shared := []impl.Cmd{set("a", 1), add("b", 2), take("a", 1), set("c", 3)}
	was := slices.Clone(shared)
	base := rowWith(1)
	tree := []impl.Block{first(), on(base, 0, 1, shared[:2]...), on(base, 0, 2, shared[:2]...), on(base, 0, 3, shared[1:]...)}
	b := on(base, 0, 4, shared...)
	for _, put := range []impl.Block{b, tree[2], tree[0], {Parent: 9}} {
		want, _ := plainPut(tree, put)
		want = copyTree(want)
		for i := range want {
			got, _ := impl.PutBlock(tree, put)
			soilCmds(got[i].Cmds)
			for other := range got {
				if other != i && !plainSame(got[other], want[other]) {
					t.Fatalf("the Cmds of the blocks at %d and %d share memory", i, other)
				}
			}
			got[i].Cmds = append(got[i].Cmds, set("x", 1))
			got = append(got[:i], got[i+1:]...)
			if !sameTree(got, slices.Delete(copyTree(want), i, i+1)) || !slices.Equal(shared, was) {
				t.Fatalf("what is written behind the Cmds at %d is seen elsewhere", i)
			}
		}
	}
}

func cmdKeys(tree []impl.Block) []string {
	var keys []string
	for _, b := range tree {
		for _, c := range b.Cmds {
			keys = append(keys, c.Key)
		}
	}
	return keys
}

func TestPutBlockAnswersNewKeys(t *testing.T) {
	for _, kind := range []int{impl.CmdSet, -5} {
		base := rowWith(1)
		b := on(base, 0, 1, impl.Cmd{Kind: kind, Key: strings.Clone("abc")}, impl.Cmd{Kind: kind, Key: strings.Clone("de")})
		more := on(base, 0, 2, set(strings.Clone("xyz"), 1), set(strings.Clone("xyz"), 2))
		tree := []impl.Block{first(), b}
		for _, put := range []impl.Block{more, copyOf(b), {Parent: 9, Cmds: more.Cmds}} {
			got, _ := impl.PutBlock(tree, put)
			// copyOf shares the keys of b: those of the tree and of more stand for all that is handed in.
			if !ownKeys(slices.Concat(cmdKeys(tree), cmdKeys([]impl.Block{more}), cmdKeys(got))) {
				t.Errorf("PutBlock(%v, %v) answers an argument's memory, or the same twice", tree, put)
			}
			if unsafe.SliceData(got) == unsafe.SliceData(tree) {
				t.Errorf("PutBlock(%v, %v) answers the list that was handed in", tree, put)
			}
		}
	}
}
