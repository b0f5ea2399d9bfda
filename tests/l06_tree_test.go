package tests

import (
	"go/ast"
	"go/parser"
	"go/token"
	"math"
	"slices"
	"testing"
	"time"
	"unsafe"

	"loop.example/g00330/impl"
)

// branches is a tree of a trunk 1 2 3 and three ways that leave it, at the first block, in the middle and at its end:
// 0 - 1 - 2 - 3 - 8, 0 - 4 - 5, 2 - 6 - 7, 3 - 9
func branches() []impl.Block {
	tree := []impl.Block{first()}
	for _, parent := range []int{0, 1, 2, 0, 4, 2, 6, 3, 3} {
		tree = append(tree, on(tree, parent, tree[parent].View+1, set("a", len(tree))))
	}
	return tree
}

// askedPlaces are all places of a tree, and such as are none.
func askedPlaces(tree []impl.Block) []int {
	places := []int{math.MinInt, -len(tree), -2, -1, len(tree), len(tree) + 1, 2 * len(tree), math.MaxInt}
	for k := range tree {
		places = append(places, k)
	}
	return places
}

// wrongParents are such as are not ahead of a block at k, in a tree of that size.
func wrongParents(k int, size int) []int {
	out := []int{-1, -2, -k, math.MinInt, k, size, size + 1, math.MaxInt}
	for behind := k + 1; behind < size; behind++ {
		out = append(out, behind)
	}
	return slices.DeleteFunc(out, func(parent int) bool { return parent >= 0 && parent < k })
}

// withParent is that tree but for the Parent of one block.
func withParent(tree []impl.Block, k int, parent int) []impl.Block {
	out := copyTree(tree)
	out[k].Parent = parent
	return out
}

// brokenTrees are trees in each of which one block, but not the first one, has a Parent that is not ahead of it.
func brokenTrees() [][]impl.Block {
	var out [][]impl.Block
	for _, tree := range [][]impl.Block{rowWith(2), rowWith(6), bushWith(8), branches()} {
		for k := 1; k < len(tree); k++ {
			for _, parent := range wrongParents(k, len(tree)) {
				out = append(out, withParent(tree, k, parent))
			}
		}
	}
	return out
}

// wildTrees are trees whose Parents are drawn from a bit below 0 to a bit past the end.
func wildTrees() [][]impl.Block {
	var out [][]impl.Block
	seed := uint32(1)
	for size := 1; size < 12; size++ {
		for range 40 {
			tree := []impl.Block{first()}
			for len(tree) < size {
				seed = seed*1664525 + 1013904223
				parent := int(seed>>16) % len(tree)
				if seed>>8%5 == 0 {
					parent = int(seed>>16)%(size+3) - 2
				}
				tree = append(tree, impl.Block{Parent: parent})
			}
			out = append(out, tree)
		}
	}
	return out
}

func allTrees() [][]impl.Block {
	return slices.Concat(rightTrees(), [][]impl.Block{branches()}, wrongTrees(), brokenTrees(), wildTrees())
}

// plainHeight, plainExtends, plainRowTo, plainClash, plainRowAfter and plainBeginning are the chapter's own words, from one Parent to the next.
func plainHeight(tree []impl.Block, k int) int {
	if k < 0 || k >= len(tree) {
		return -1
	}
	if k == 0 {
		return 0
	}
	if tree[k].Parent < 0 || tree[k].Parent >= k {
		return -1
	}
	if height := plainHeight(tree, tree[k].Parent); height >= 0 {
		return height + 1
	}
	return -1
}

func plainExtends(tree []impl.Block, k int, under int) bool {
	return plainHeight(tree, k) >= 0 && (k == under || k > 0 && plainExtends(tree, tree[k].Parent, under))
}

func plainRowTo(tree []impl.Block, k int) []int {
	if plainHeight(tree, k) < 1 {
		return nil
	}
	return append(plainRowTo(tree, tree[k].Parent), k)
}

func plainClash(tree []impl.Block, a int, b int) bool {
	return plainHeight(tree, a) >= 0 && plainHeight(tree, b) >= 0 && !plainExtends(tree, a, b) && !plainExtends(tree, b, a)
}

func plainRowAfter(tree []impl.Block, k int, under int) []int {
	if !plainExtends(tree, k, under) {
		return nil
	}
	var out []int
	for _, at := range plainRowTo(tree, k) {
		if at != under && plainExtends(tree, at, under) {
			out = append(out, at)
		}
	}
	return out
}

func plainBeginning(a []int, b []int) bool {
	for i := 0; i < len(a) && i < len(b); i++ {
		if a[i] != b[i] {
			return false
		}
	}
	return true
}

// holdBlock asks all that is asked of one block.
func holdBlock(t *testing.T, tree []impl.Block, k int, height int, row []int) {
	t.Helper()
	if got := impl.HeightOf(tree, k); got != height {
		t.Fatalf("HeightOf(%.300v, %d) = %d, want %d", tree, k, got, height)
	}
	if got := impl.RowTo(tree, k); !slices.Equal(got, row) {
		t.Fatalf("RowTo(%.300v, %d) = %v, want %v", tree, k, got, row)
	}
}

// holdTwo asks all that is asked of two blocks.
func holdTwo(t *testing.T, tree []impl.Block, k int, under int, extends bool, clash bool, row []int) {
	t.Helper()
	if got := impl.Extends(tree, k, under); got != extends {
		t.Fatalf("Extends(%.300v, %d, %d) = %v", tree, k, under, got)
	}
	if got := impl.Clash(tree, k, under); got != clash {
		t.Fatalf("Clash(%.300v, %d, %d) = %v", tree, k, under, got)
	}
	if got := impl.RowAfter(tree, k, under); !slices.Equal(got, row) {
		t.Fatalf("RowAfter(%.300v, %d, %d) = %v, want %v", tree, k, under, got, row)
	}
}

// holdWords holds all functions against the chapter's words, at all places.
func holdWords(t *testing.T, tree []impl.Block) {
	t.Helper()
	for _, k := range askedPlaces(tree) {
		holdBlock(t, tree, k, plainHeight(tree, k), plainRowTo(tree, k))
		for _, under := range askedPlaces(tree) {
			holdTwo(t, tree, k, under, plainExtends(tree, k, under), plainClash(tree, k, under), plainRowAfter(tree, k, under))
		}
	}
}

// holdNone holds that a block is not there: nothing stands on anything by it.
func holdNone(t *testing.T, tree []impl.Block, k int) {
	t.Helper()
	holdBlock(t, tree, k, -1, nil)
	for _, other := range append(askedPlaces(tree), k) {
		holdTwo(t, tree, k, other, false, false, nil)
		holdTwo(t, tree, other, k, false, false, nil)
	}
}

func TestTreeByTheWords(t *testing.T) {
	for _, tree := range allTrees() {
		holdWords(t, tree)
	}
}

func TestTreeThatBranches(t *testing.T) {
	tree := branches()
	rows := [][]int{{}, {1}, {1, 2}, {1, 2, 3}, {4}, {4, 5}, {1, 2, 6}, {1, 2, 6, 7}, {1, 2, 3, 8}, {1, 2, 3, 9}}
	for k, row := range rows {
		holdBlock(t, tree, k, len(row), row)
		for under := range rows {
			at := slices.Index(row, under)
			stands := under == 0 || at >= 0
			below := k == 0 || slices.Contains(rows[under], k)
			var after []int
			if stands {
				after = row[at+1:]
			}
			holdTwo(t, tree, k, under, stands, !stands && !below, after)
		}
	}
}

// Promise 6, of any two blocks, and of any three.
func TestOneStandsOnTheOtherOrTheyClash(t *testing.T) {
	clashes, stands := 0, 0
	for _, tree := range append(rightTrees(), branches()) {
		for a := range tree {
			for b := range tree {
				over, below, clash := impl.Extends(tree, a, b), impl.Extends(tree, b, a), impl.Clash(tree, a, b)
				if (over || below) == clash || impl.Clash(tree, b, a) != clash {
					t.Fatalf("of %d blocks %d Extends %d: %v, and back: %v, and they Clash: %v", len(tree), a, b, over, below, clash)
				}
				if (over && below) != (a == b) {
					t.Fatalf("of %d blocks %d and %d Extend one another", len(tree), a, b)
				}
				if clash {
					clashes++
				} else {
					stands++
				}
				for c := range tree {
					if over && impl.Extends(tree, b, c) && !impl.Extends(tree, a, c) {
						t.Fatalf("of %d blocks %d Extends %d, and this one %d, but not the first of them the last", len(tree), a, b, c)
					}
				}
			}
		}
	}
	if clashes < 1000 || stands < 1000 {
		t.Errorf("only %d clash, and %d don't", clashes, stands)
	}
}

// Who stands on one of two that clash, clashes with the other one.
func TestClashesGoUp(t *testing.T) {
	for _, tree := range [][]impl.Block{branches(), bushWith(20)} {
		for a := range tree {
			for b := range tree {
				for c := range tree {
					if impl.Clash(tree, a, b) && impl.Extends(tree, c, a) && !impl.Clash(tree, c, b) {
						t.Fatalf("%d stands on %d, which clashes with %d, but does not itself", c, a, b)
					}
				}
			}
		}
	}
}

func TestRowsGoDownByParents(t *testing.T) {
	for _, tree := range append(rightTrees(), branches()) {
		for k := range tree {
			row, height := impl.RowTo(tree, k), impl.HeightOf(tree, k)
			if len(row) != height || k > 0 && (height < 1 || row[height-1] != k) {
				t.Fatalf("RowTo(%d blocks, %d) = %v, and HeightOf it is %d", len(tree), k, row, height)
			}
			at := k
			for i := len(row) - 1; i >= 0; i-- {
				if row[i] != at {
					t.Fatalf("RowTo(%d blocks, %d) = %v, and %d is not in it", len(tree), k, row, at)
				}
				at = tree[at].Parent
			}
			if at != 0 {
				t.Fatalf("RowTo(%d blocks, %d) = %v ends at %d", len(tree), k, row, at)
			}
			if k > 0 && height != impl.HeightOf(tree, tree[k].Parent)+1 {
				t.Errorf("HeightOf(%d blocks, %d) = %d", len(tree), k, height)
			}
		}
	}
}

// RowAfter is RowTo without RowTo of the block under it.
func TestRowsComeApart(t *testing.T) {
	for _, tree := range append(rightTrees(), branches()) {
		for k := range tree {
			for under := range tree {
				row, below, after := impl.RowTo(tree, k), impl.RowTo(tree, under), impl.RowAfter(tree, k, under)
				if impl.Extends(tree, k, under) {
					if !slices.Equal(slices.Concat(below, after), row) || !impl.Beginning(below, row) {
						t.Errorf("RowTo(%d blocks, %d) = %v, under it %v, RowAfter it %v", len(tree), k, row, below, after)
					}
				} else if len(after) != 0 {
					t.Errorf("RowAfter(%d blocks, %d, %d) = %v", len(tree), k, under, after)
				}
				if impl.Beginning(row, below) == impl.Clash(tree, k, under) {
					t.Errorf("of %d blocks the rows to %d and %d begin alike, but they clash; or neither", len(tree), k, under)
				}
			}
		}
	}
}

func TestFirstBlockOfATree(t *testing.T) {
	for _, tree := range append(rightTrees(), branches()) {
		holdBlock(t, tree, 0, 0, nil)
		holdTwo(t, tree, 0, 0, true, false, nil)
		for k := 1; k < len(tree); k++ {
			holdTwo(t, tree, k, 0, true, false, impl.RowTo(tree, k))
			holdTwo(t, tree, 0, k, false, false, nil)
			holdTwo(t, tree, k, k, true, false, nil)
			if row := impl.RowTo(tree, k); slices.Contains(row, 0) || len(row) == 0 {
				t.Errorf("RowTo(%d blocks, %d) = %v", len(tree), k, row)
			}
		}
	}
}

// The way ends at the first block, whatever stands in it.
func TestFirstBlocksOwnParentIsNoStep(t *testing.T) {
	for _, parent := range []int{-2, 0, 1, 2, 9, 10, math.MaxInt, math.MinInt} {
		tree := withParent(branches(), 0, parent)
		holdBlock(t, tree, 0, 0, nil)
		holdBlock(t, tree, 9, 4, []int{1, 2, 3, 9})
		holdTwo(t, tree, 9, 0, true, false, []int{1, 2, 3, 9})
		holdTwo(t, tree, 0, 9, false, false, nil)
		holdTwo(t, tree, 9, 5, false, true, nil)
		holdWords(t, tree)
	}
	for _, b := range wrongFirsts() {
		holdBlock(t, []impl.Block{b}, 0, 0, nil)
		holdTwo(t, []impl.Block{b}, 0, 0, true, false, nil)
		holdNone(t, []impl.Block{b}, 1)
	}
}

func TestTreesWithoutSuchABlock(t *testing.T) {
	for _, tree := range [][]impl.Block{nil, {}} {
		for _, k := range []int{math.MinInt, -2, -1, 0, 1, 2, math.MaxInt} {
			holdNone(t, tree, k)
		}
	}
	for _, tree := range append(rightTrees(), branches()) {
		for _, k := range []int{math.MinInt, -len(tree), -2, -1, len(tree), len(tree) + 1, math.MaxInt} {
			holdNone(t, tree, k)
		}
		// The last place is one.
		last := len(tree) - 1
		holdTwo(t, tree, last, last, true, false, nil)
		if impl.HeightOf(tree, last) < 0 {
			t.Errorf("HeightOf(%d blocks, %d) is below 0", len(tree), last)
		}
		// One that is past the end is not there, though the list has room for it.
		if last > 0 {
			holdNone(t, tree[:last], last)
		}
	}
}

func TestFirstBlockAlone(t *testing.T) {
	tree := impl.TreeNew()
	holdBlock(t, tree, 0, 0, nil)
	holdTwo(t, tree, 0, 0, true, false, nil)
	for _, k := range []int{math.MinInt, -1, 1, math.MaxInt} {
		holdNone(t, tree, k)
	}
}

func TestTreeInOneRow(t *testing.T) {
	for _, size := range []int{2, impl.MaxBlocks, impl.MaxBlocks + 1, 3 * impl.MaxBlocks} {
		tree := rowWith(size)
		var all []int
		for k := range size {
			if k > 0 {
				all = append(all, k)
			}
			holdBlock(t, tree, k, k, all)
			for under := range size {
				holdTwo(t, tree, k, under, under <= k, false, all[min(under, k):])
			}
		}
	}
}

// All stand on the first block alone: each two clash.
func TestTreeOfOneStep(t *testing.T) {
	tree := rowWith(1)
	for k := 1; k < impl.MaxBlocks; k++ {
		tree = append(tree, on(tree, 0, k))
	}
	for k := 1; k < len(tree); k++ {
		holdBlock(t, tree, k, 1, []int{k})
		for under := 1; under < len(tree); under++ {
			holdTwo(t, tree, k, under, k == under, k != under, nil)
		}
	}
}

// Neither View nor Cmds nor Just are looked at, only who stands on whom.
func TestTreeLooksAtParentsAlone(t *testing.T) {
	tree := branches()
	for k := range tree {
		tree[k].View, tree[k].Cmds, tree[k].Just = -k, []impl.Cmd{{Kind: 9}}, impl.Qc{Phase: -1, View: -2, Block: -3, Signers: -4}
	}
	same := []impl.Block{first(), {}, {}, {}}
	for _, tree := range [][]impl.Block{tree, same} {
		if impl.TreeOk(tree) {
			t.Errorf("TreeOk(%v) is true", tree)
		}
		holdWords(t, tree)
	}
	holdTwo(t, same, 2, 3, false, true, nil)
}

// A way that breaks leads nowhere, at the block itself and further up; another way does not hang on it.
func TestWaysThatBreak(t *testing.T) {
	whole := branches()
	for broken := 1; broken < len(whole); broken++ {
		for _, parent := range wrongParents(broken, len(whole)) {
			tree := withParent(whole, broken, parent)
			for k := range tree {
				if impl.Extends(whole, k, broken) {
					holdNone(t, tree, k)
					continue
				}
				holdBlock(t, tree, k, impl.HeightOf(whole, k), impl.RowTo(whole, k))
				for under := range tree {
					if !impl.Extends(whole, under, broken) {
						holdTwo(t, tree, k, under, impl.Extends(whole, k, under), impl.Clash(whole, k, under), impl.RowAfter(whole, k, under))
					}
				}
			}
		}
	}
}

// Ways that go round end, too.
func TestWaysThatGoRoundEnd(t *testing.T) {
	for _, parents := range [][]int{{-1, 1}, {-1, 2, 1}, {-1, 2, 3, 1}, {1, 0}, {0, 1}, {2, 0, 1}, {-1, 3, 1, 2}, {-1, 2, 2}} {
		var tree []impl.Block
		for _, parent := range parents {
			tree = append(tree, impl.Block{Parent: parent})
		}
		done := make(chan bool)
		go func() {
			for _, k := range askedPlaces(tree) {
				impl.HeightOf(tree, k)
				impl.RowTo(tree, k)
				impl.Extends(tree, k, 0)
				impl.Clash(tree, k, 0)
				impl.RowAfter(tree, k, 0)
			}
			close(done)
		}()
		select {
		case <-done:
		case <-time.After(20 * time.Second):
			t.Fatalf("the Parents %v are gone round", parents)
		}
		holdWords(t, tree)
	}
}

func TestExtendsOfABrokenWayBelow(t *testing.T) {
	// 3 stands on 2, but 2 stands on nothing that is ahead of it.
	tree := withParent(rowWith(4), 2, 2)
	holdTwo(t, tree, 3, 2, false, false, nil)
	holdTwo(t, tree, 3, 3, false, false, nil)
	holdTwo(t, tree, 2, 2, false, false, nil)
	holdTwo(t, tree, 1, 3, false, false, nil)
	holdTwo(t, tree, 1, 0, true, false, []int{1})
	// A Parent below 0 is the first one's alone.
	tree = withParent(rowWith(4), 2, -1)
	holdTwo(t, tree, 3, -1, false, false, nil)
	holdTwo(t, tree, 2, -1, false, false, nil)
	holdBlock(t, tree, 2, -1, nil)
	holdBlock(t, tree, 3, -1, nil)
}

func TestBeginning(t *testing.T) {
	for _, c := range []struct {
		a, b []int
		want bool
	}{
		{nil, nil, true}, {nil, []int{}, true}, {[]int{}, []int{}, true}, {nil, []int{1}, true}, {[]int{}, []int{1, 2}, true},
		{[]int{1}, []int{1}, true}, {[]int{1, 2, 3}, []int{1, 2, 3}, true}, {[]int{1}, []int{1, 2}, true}, {[]int{1, 2}, []int{1, 2, 3, 4}, true},
		{[]int{2}, []int{1}, false}, {[]int{2}, []int{1, 2}, false}, {[]int{9, 2, 3}, []int{1, 2, 3}, false}, {[]int{1, 9, 3}, []int{1, 2, 3}, false},
		{[]int{1, 2, 9}, []int{1, 2, 3}, false}, {[]int{1, 2, 9}, []int{1, 2, 3, 9}, false}, {[]int{2, 3}, []int{1, 2, 3}, false}, {[]int{1, 3}, []int{1, 2, 3}, false},
		{[]int{3, 2, 1}, []int{1, 2, 3}, false}, {[]int{0}, []int{-1}, false}, {[]int{math.MinInt}, []int{math.MaxInt}, false},
		{[]int{0, 0}, []int{0, 0, 0}, true}, {[]int{-1}, []int{-1, math.MaxInt}, true}, {[]int{1 << 40}, []int{0}, false}, {[]int{0}, nil, true},
	} {
		if impl.Beginning(c.a, c.b) != c.want || impl.Beginning(c.b, c.a) != c.want {
			t.Errorf("Beginning(%v, %v) is %v, and back %v", c.a, c.b, impl.Beginning(c.a, c.b), impl.Beginning(c.b, c.a))
		}
	}
}

func someLists() [][]int {
	lists := [][]int{nil}
	for from := 0; len(lists) < 400; from++ {
		for last := range 3 {
			lists = append(lists, append(slices.Clone(lists[from]), last))
		}
	}
	return lists
}

func TestBeginningByTheWords(t *testing.T) {
	for _, a := range someLists() {
		for _, b := range someLists() {
			if got := impl.Beginning(a, b); got != plainBeginning(a, b) {
				t.Fatalf("Beginning(%v, %v) = %v", a, b, got)
			}
		}
	}
}

func TestBeginningLooksAtEachPlace(t *testing.T) {
	long := make([]int, 200)
	for i := range long {
		turned := slices.Clone(long)
		turned[i] = 1
		for _, size := range []int{i + 1, len(long)} {
			if impl.Beginning(long, turned[:size]) || impl.Beginning(turned[:size], long) {
				t.Errorf("what is another one at %d of %d is not seen", i, size)
			}
		}
		if !impl.Beginning(long, turned[:i]) || !impl.Beginning(long[:i], turned) {
			t.Errorf("what stands behind %d is seen", i)
		}
	}
}

func TestTreeArgumentsStay(t *testing.T) {
	for _, tree := range append(wrongTrees(), branches(), bushWith(9), rowWith(5), brokenTrees()[20]) {
		whole, front := roomyTree(tree)
		was := wholeTree(whole)
		for _, k := range askedPlaces(tree) {
			impl.HeightOf(front, k)
			soilNumbers(impl.RowTo(front, k))
			for _, other := range askedPlaces(tree) {
				impl.Extends(front, k, other)
				impl.Clash(front, k, other)
				soilNumbers(impl.RowAfter(front, k, other))
			}
		}
		if !sameTree(wholeTree(whole), was) {
			t.Fatalf("the tree is changed: %v, was %v", whole, was)
		}
	}
}

func soilNumbers(row []int) {
	all := row[:cap(row)]
	for i := range all {
		all[i] = -9
	}
}

func TestBeginningArgumentsStay(t *testing.T) {
	for _, a := range someLists()[:60] {
		for _, b := range someLists()[:60] {
			one, two := append(slices.Clone(a), -7, -7), append(slices.Clone(b), -8, -8)
			got := impl.Beginning(one[:len(a)], two[:len(b)])
			if !slices.Equal(one, append(slices.Clone(a), -7, -7)) || !slices.Equal(two, append(slices.Clone(b), -8, -8)) {
				t.Fatalf("Beginning changes %v or %v", a, b)
			}
			// What stands in the spare room is not looked at, nor whether both are one list.
			if got != plainBeginning(a, b) || !impl.Beginning(one[:len(a)], one) {
				t.Fatalf("Beginning(%v, %v) = %v", a, b, got)
			}
		}
	}
}

// Each answer is a list of its own: what is written into one is not seen in the next.
func TestRowsAreNew(t *testing.T) {
	tree := branches()
	for k := range tree {
		for under := range tree {
			row, after := impl.RowTo(tree, k), impl.RowAfter(tree, k, under)
			again, afterAgain := impl.RowTo(tree, k), impl.RowAfter(tree, k, under)
			if len(after) > 0 && (unsafe.SliceData(after) == unsafe.SliceData(afterAgain) || unsafe.SliceData(after) == unsafe.SliceData(row)) {
				t.Errorf("RowAfter(%d blocks, %d, %d) answers one list twice", len(tree), k, under)
			}
			soilNumbers(row)
			soilNumbers(after)
			if !slices.Equal(again, plainRowTo(tree, k)) || !slices.Equal(afterAgain, plainRowAfter(tree, k, under)) {
				t.Errorf("the rows to %d and behind %d share memory", k, under)
			}
		}
	}
}

// handedYield tells whether a function takes a yield that answers whether to go on.
func handedYield(f *ast.FuncType) bool {
	for _, p := range f.Params.List {
		yield, ok := p.Type.(*ast.FuncType)
		if ok && len(p.Names) == 1 && p.Names[0].Name == "yield" && yield.Results.NumFields() == 1 {
			return true
		}
	}
	return false
}

// The chapter 'Ways': a way down is told by a function that is handed a yield. It is ranged over, and yield is called in it.
func TestWayDownIsHandedAYield(t *testing.T) {
	file, err := parser.ParseFile(token.NewFileSet(), "../impl/l06_tree.go", nil, 0)
	if err != nil {
		t.Fatal(err)
	}
	yields, calls, tellers := 0, 0, map[string]bool{}
	for _, d := range file.Decls {
		f, ok := d.(*ast.FuncDecl)
		if !ok {
			continue
		}
		ast.Inspect(f, func(n ast.Node) bool {
			switch x := n.(type) {
			case *ast.FuncType:
				if handedYield(x) {
					yields++
					tellers[f.Name.Name] = true
				}
			case *ast.CallExpr:
				if id, ok := x.Fun.(*ast.Ident); ok && id.Name == "yield" {
					calls++
				}
			}
			return true
		})
	}
	ranged := 0
	ast.Inspect(file, func(n ast.Node) bool {
		if r, ok := n.(*ast.RangeStmt); ok {
			if call, ok := r.X.(*ast.CallExpr); ok {
				if id, ok := call.Fun.(*ast.Ident); ok && tellers[id.Name] {
					ranged++
				}
			}
		}
		return true
	})
	if yields == 0 || calls == 0 || ranged == 0 {
		t.Errorf("%d functions are handed a yield, it is called %d times, and %d ranges go over one", yields, calls, ranged)
	}
}
