package tests

import (
	"go/ast"
	"go/parser"
	"go/token"
	"math"
	"math/big"
	"slices"
	"strings"
	"testing"
	"time"
	"unsafe"

	"loop.example/g00330/impl"
)

// signedOn is a block on this place of the tree whose Just is right for n: all have signed it, or, on the first block, it is nothing.
func signedOn(tree []impl.Block, n int, phase int, parent int, view int, cmds ...impl.Cmd) impl.Block {
	b := impl.Block{Parent: parent, View: view, Cmds: cmds}
	if parent > 0 {
		b.Just = impl.Qc{Phase: phase, View: tree[parent].View, Block: parent, Signers: 1<<n - 1}
	}
	return b
}

// letterTree is a tree whose blocks may all be shown among n: of View 1, of MaxView, two of one View, and with Justs of several Phases.
func letterTree(n int) []impl.Block {
	tree := []impl.Block{first()}
	tree = append(tree, signedOn(tree, n, 0, 0, 1, set("a", 1)))
	tree = append(tree, signedOn(tree, n, impl.PhChain, 1, 2), signedOn(tree, n, impl.PhOne, 1, 2, add("a", 127), take("bc", 128)), signedOn(tree, n, 0, 0, 5))
	tree = append(tree, signedOn(tree, n, impl.PhTwo, 2, 7, set("a", 0), add("zz", impl.MaxNumber), take("zzz", 16384), set("q", 300)))
	return append(tree, signedOn(tree, n, impl.PhThree, 5, impl.MaxView), signedOn(tree, n, impl.PhOne, 3, impl.MaxView-1, set("abc", 5)))
}

// hollowTree is a tree that is right, and in which no block but 1 and 2 may be shown among four: the Justs of the others are no right ones.
func hollowTree() []impl.Block {
	tree := []impl.Block{first()}
	tree = append(tree, signedOn(tree, 4, 0, 0, 1))
	tree = append(tree, signedOn(tree, 4, impl.PhOne, 1, 2))
	for i, just := range []impl.Qc{
		{Phase: impl.PhOne, View: 1, Block: 1, Signers: 3}, {Phase: impl.PhOne, View: 1, Block: 1, Signers: 16 + 7}, {Phase: impl.PhOne, View: 1, Block: 1, Signers: -1}, {Phase: 0, View: 1, Block: 1, Signers: 15}, {Phase: 5, View: 1, Block: 1, Signers: 15}, {View: 1, Block: 1},
		{Phase: impl.PhOne}, {Signers: 15}, {Phase: impl.PhChain, Signers: 15},
	} {
		tree = append(tree, impl.Block{Parent: just.Block, View: 3 + i, Just: just})
	}
	return tree
}

// rightLetters are letters of each Kind that are right in a letterTree among n.
func rightLetters(tree []impl.Block, n int) []impl.Letter {
	var out []impl.Letter
	for k := 1; k < len(tree); k++ {
		view := tree[k].View
		from, to := k%n, (k+1)%n
		out = append(out, impl.Letter{Kind: impl.LtBlock, From: from, To: to, View: view, Block: k, Qc: tree[k].Just})
		for phase := impl.PhOne; phase <= impl.PhChain; phase++ {
			enough := impl.Qc{Phase: phase, View: view, Block: k, Signers: 1<<n - 1}
			out = append(out,
				impl.Letter{Kind: impl.LtVote, From: from, To: n - 1, View: view, Vote: impl.Vote{Phase: phase, View: view, Block: k, By: from}},
				impl.Letter{Kind: impl.LtQc, From: n - 1, To: from, View: view, Qc: enough})
			if view < impl.MaxView {
				out = append(out,
					impl.Letter{Kind: impl.LtView, From: to, To: 0, View: view + 1, Qc: enough},
					impl.Letter{Kind: impl.LtView, From: to, To: from, View: impl.MaxView, Qc: enough})
			}
		}
		out = append(out, impl.Letter{Kind: impl.LtView, From: from, To: to, View: view})
	}
	return append(out, impl.Letter{Kind: impl.LtView, View: 1}, impl.Letter{Kind: impl.LtView, View: impl.MaxView})
}

// letterFields are the places of all numbers of a letter, by their names.
func letterFields(l *impl.Letter) map[string]*int {
	return map[string]*int{
		"Kind": &l.Kind, "From": &l.From, "To": &l.To, "View": &l.View, "Block": &l.Block,
		"Qc.Phase": &l.Qc.Phase, "Qc.View": &l.Qc.View, "Qc.Block": &l.Qc.Block, "Qc.Signers": &l.Qc.Signers,
		"Vote.Phase": &l.Vote.Phase, "Vote.View": &l.Vote.View, "Vote.Block": &l.Vote.Block, "Vote.By": &l.Vote.By,
	}
}

// fieldNumbers are the edges of what a field may be, and such as it can't be.
func fieldNumbers() []int {
	return []int{
		math.MinInt, -impl.MaxNumber, -2, -1, 0, 1, 2, 3, 4, 5, 6, 7, 8, 15, 126, 127, 128, 129, impl.MaxView - 1, impl.MaxView, impl.MaxView + 1,
		16383, 16384, impl.MaxNumber - 1, impl.MaxNumber, impl.MaxNumber + 1, math.MaxInt32 + 1, 1 << 56, 1<<62 + 5, math.MaxInt - 1, math.MaxInt,
	}
}

// turnedLetters are letters that are each but one number away from that one.
func turnedLetters(l impl.Letter) []impl.Letter {
	var out []impl.Letter
	for name := range letterFields(&l) {
		was := *letterFields(&l)[name]
		for _, num := range append(fieldNumbers(), was+1, was-1) {
			other := l
			*letterFields(&other)[name] = num
			out = append(out, other)
		}
	}
	return out
}

// wildLetters are letters of which no field is in any range, and some of which only some are.
func wildLetters() []impl.Letter {
	var out []impl.Letter
	for i, a := range fieldNumbers() {
		b := fieldNumbers()[(i*7+3)%len(fieldNumbers())]
		out = append(out,
			impl.Letter{Kind: a, From: a, To: a, View: a, Block: a, Qc: impl.Qc{Phase: a, View: a, Block: a, Signers: a}, Vote: impl.Vote{Phase: a, View: a, Block: a, By: a}},
			impl.Letter{Kind: b, From: a, To: b, View: a, Block: b, Qc: impl.Qc{Phase: a, View: b, Block: a, Signers: b}, Vote: impl.Vote{Phase: b, View: a, Block: b, By: a}},
			impl.Letter{Kind: a, View: b, Qc: impl.Qc{Signers: a}, Vote: impl.Vote{By: b}})
	}
	return out
}

// wildBlocks are blocks whose numbers, Cmds and Keys are in no range.
func wildBlocks() []impl.Block {
	out := slices.Concat(someBlocks(), bushWith(9))
	for i, a := range fieldNumbers() {
		b := fieldNumbers()[(i*5+2)%len(fieldNumbers())]
		out = append(out,
			impl.Block{Parent: a, View: b, Cmds: []impl.Cmd{{Kind: a, Key: "k", Num: b}, {Kind: b, Num: a}}, Just: impl.Qc{Phase: a, View: b, Block: a, Signers: b}},
			impl.Block{Parent: a}, impl.Block{View: a}, impl.Block{Just: impl.Qc{Phase: a}}, impl.Block{Just: impl.Qc{Signers: a}},
			impl.Block{Cmds: []impl.Cmd{{Num: a}}}, impl.Block{Cmds: []impl.Cmd{{Kind: a}}})
	}
	for _, size := range []int{0, 1, 126, 127, 128, 129, 16383, 16384, impl.MaxText - 1, impl.MaxText, impl.MaxText + 1, 3 * impl.MaxText} {
		key := strings.Repeat("k", size)
		out = append(out, impl.Block{Cmds: []impl.Cmd{set(key, 1)}}, impl.Block{Cmds: []impl.Cmd{set(key, 0), {}, take(key, 9)}})
	}
	for _, size := range []int{0, 1, impl.MaxCmds, impl.MaxCmds + 1, 127, 128, 300} {
		out = append(out, impl.Block{Cmds: make([]impl.Cmd, size)}, impl.Block{View: 1, Cmds: slices.Repeat([]impl.Cmd{set("\x00\x80\xff", 200)}, size)})
	}
	return append(out, impl.Block{Cmds: []impl.Cmd{set(allBytes(), 5)}})
}

// plainVar is chapter 1's own words, without an end to the numbers.
func plainVar(n *big.Int) string {
	var out []byte
	for n.Cmp(big.NewInt(127)) > 0 {
		rest, low := new(big.Int).DivMod(n, big.NewInt(128), new(big.Int))
		out = append(out, byte(low.Int64()+128))
		n = rest
	}
	return string(append(out, byte(n.Int64())))
}

func plainNumbers(numbers ...int) string {
	out := ""
	for _, n := range numbers {
		if n < 0 {
			n = 0
		}
		out += plainVar(big.NewInt(int64(n)))
	}
	return out
}

func plainQcText(q impl.Qc) string {
	return plainNumbers(q.Phase, q.View, q.Block, q.Signers)
}

func plainVoteText(v impl.Vote) string {
	return plainNumbers(v.Phase, v.View, v.Block, v.By)
}

func plainBlockText(b impl.Block) string {
	out := "\x00"
	if b.Parent >= 0 {
		out = plainVar(new(big.Int).Add(big.NewInt(int64(b.Parent)), big.NewInt(1)))
	}
	out += plainNumbers(b.View, len(b.Cmds))
	for _, c := range b.Cmds {
		out += plainNumbers(c.Kind, len(c.Key)) + c.Key + plainNumbers(c.Num)
	}
	return out + plainQcText(b.Just)
}

// plainBody is the text of a letter without its seal.
func plainBody(l impl.Letter) string {
	return plainNumbers(l.Kind, l.From, l.To, l.View, l.Block) + plainQcText(l.Qc) + plainVoteText(l.Vote)
}

// plainSealed has the sum by chapter 2's own words.
func plainSealed(text string) string {
	sum := plainSum(4294967295, text)
	return text + string([]byte{byte(sum >> 24), byte(sum >> 16), byte(sum >> 8), byte(sum)})
}

// numberAt is the number whose bytes stand ahead in t, and what is behind it; false when there is none, or it is above most.
func numberAt(t string, most *big.Int) (*big.Int, string, bool) {
	n, scale := new(big.Int), big.NewInt(1)
	for i := range len(t) {
		n.Add(n, new(big.Int).Mul(big.NewInt(int64(t[i]&127)), scale))
		scale.Mul(scale, big.NewInt(128))
		if t[i] < 128 {
			return n, t[i+1:], (i == 0 || t[i] != 0) && n.Cmp(most) <= 0
		}
	}
	return new(big.Int), "", false
}

// numbersAt are so many ints that stand ahead in t, and what is behind them.
func numbersAt(t string, count int) ([]int, string, bool) {
	var out []int
	for range count {
		n, rest, ok := numberAt(t, big.NewInt(math.MaxInt))
		if !ok {
			return nil, "", false
		}
		out, t = append(out, int(n.Int64())), rest
	}
	return out, t, true
}

// cmdAt is the command that stands ahead in t, and what is behind it.
func cmdAt(t string) (impl.Cmd, string, bool) {
	head, t, ok := numbersAt(t, 2)
	if !ok || head[1] > len(t) {
		return impl.Cmd{}, "", false
	}
	key := t[:head[1]]
	num, t, ok := numbersAt(t[head[1]:], 1)
	if !ok {
		return impl.Cmd{}, "", false
	}
	return impl.Cmd{Kind: head[0], Key: key, Num: num[0]}, t, true
}

// plainReadBlock goes through a text part by part, and looks at the form of each number.
func plainReadBlock(t string) (impl.Block, bool) {
	most := new(big.Int).Add(big.NewInt(math.MaxInt), big.NewInt(1))
	parent, t, ok := numberAt(t, most)
	if !ok {
		return impl.Block{}, false
	}
	head, t, ok := numbersAt(t, 2)
	if !ok {
		return impl.Block{}, false
	}
	b := impl.Block{Parent: int(new(big.Int).Sub(parent, big.NewInt(1)).Int64()), View: head[0]}
	for range head[1] {
		c, rest, ok := cmdAt(t)
		if !ok {
			return impl.Block{}, false
		}
		b.Cmds, t = append(b.Cmds, c), rest
	}
	just, t, ok := numbersAt(t, 4)
	if !ok || t != "" {
		return impl.Block{}, false
	}
	b.Just = impl.Qc{Phase: just[0], View: just[1], Block: just[2], Signers: just[3]}
	return b, true
}

// plainReadBody goes through the text of a letter without its seal likewise.
func plainReadBody(t string) (impl.Letter, bool) {
	n, t, ok := numbersAt(t, 13)
	if !ok || t != "" {
		return impl.Letter{}, false
	}
	return impl.Letter{
		Kind: n[0], From: n[1], To: n[2], View: n[3], Block: n[4],
		Qc: impl.Qc{Phase: n[5], View: n[6], Block: n[7], Signers: n[8]}, Vote: impl.Vote{Phase: n[9], View: n[10], Block: n[11], By: n[12]},
	}, true
}

// plainLetterOk is the chapter's own words, sentence by sentence.
func plainLetterOk(tree []impl.Block, n int, l impl.Letter) bool {
	if l.Kind != 1 && l.Kind != 2 && l.Kind != 3 && l.Kind != 4 || l.From < 0 || l.From >= n || l.To < 0 || l.To >= n || l.View < 1 || l.View > 900 {
		return false
	}
	if l.Kind == 1 {
		if l.Block < 1 || l.Block >= len(tree) || tree[l.Block].View != l.View || l.Qc != tree[l.Block].Just || !plainQcRight(tree, n, l.Qc) {
			return false
		}
	}
	if l.Kind == 2 {
		if !plainVoteOk(tree, n, l.Vote) || l.Vote.By != l.From || l.Vote.View != l.View {
			return false
		}
	}
	if (l.Kind == 3 || l.Kind == 4) && !plainQcRight(tree, n, l.Qc) {
		return false
	}
	if l.Kind == 3 && (l.Qc.View != l.View || l.Qc.Phase < 1 || l.Qc.Phase > 4) || l.Kind == 4 && l.Qc.View >= l.View {
		return false
	}
	return (l.Kind == 1 || l.Block == 0) && (l.Kind != 2 || l.Qc == impl.Qc{}) && (l.Kind == 2 || l.Vote == impl.Vote{})
}

// notBelow is a letter as its text tells it: numbers below 0 are 0.
func notBelow(l impl.Letter) impl.Letter {
	for _, num := range letterFields(&l) {
		*num = max(*num, 0)
	}
	return l
}

// blockNotBelow is a block as its text tells it: numbers below 0 are 0, and a Parent below 0 is that of the first block.
func blockNotBelow(b impl.Block) impl.Block {
	b = copyOf(b)
	b.Parent, b.View = max(b.Parent, -1), max(b.View, 0)
	b.Just = impl.Qc{Phase: max(b.Just.Phase, 0), View: max(b.Just.View, 0), Block: max(b.Just.Block, 0), Signers: max(b.Just.Signers, 0)}
	for i, c := range b.Cmds {
		b.Cmds[i].Kind, b.Cmds[i].Num = max(c.Kind, 0), max(c.Num, 0)
	}
	return b
}

func holdLetter(t *testing.T, tree []impl.Block, n int, l impl.Letter, want bool) {
	t.Helper()
	if got := impl.LetterOk(tree, n, l); got != want {
		t.Fatalf("LetterOk(%.300v, %d, %+v) = %v", tree, n, l, got)
	}
}

func holdReadLetter(t *testing.T, text string, want impl.Letter, there bool) {
	t.Helper()
	if got, ok := impl.ReadLetter(text); got != want || ok != there {
		t.Fatalf("ReadLetter(%.100q) = %+v, %v, want %+v, %v", text, got, ok, want, there)
	}
}

func holdReadBlock(t *testing.T, text string, want impl.Block, there bool) {
	t.Helper()
	if got, ok := impl.ReadBlock(text); !plainSame(got, want) || ok != there {
		t.Fatalf("ReadBlock(%.100q) = %.100v, %v, want %.100v, %v", text, got, ok, want, there)
	}
}

func refusesLetter(t *testing.T, text string) {
	t.Helper()
	holdReadLetter(t, text, impl.Letter{}, false)
}

func refusesBlock(t *testing.T, text string) {
	t.Helper()
	holdReadBlock(t, text, impl.Block{}, false)
}

func TestLetterConstants(t *testing.T) {
	if impl.LtBlock != 1 || impl.LtVote != 2 || impl.LtQc != 3 || impl.LtView != 4 {
		t.Error("a constant is not the document's")
	}
}

func TestLettersThatAreRight(t *testing.T) {
	for n := 1; n <= impl.MaxPeers; n++ {
		tree := letterTree(n)
		if !impl.TreeOk(tree) {
			t.Fatalf("the tree for %d is not right", n)
		}
		for _, l := range rightLetters(tree, n) {
			holdLetter(t, tree, n, l, true)
		}
	}
}

// A letter of nothing is none, whatever the tree is and however many there are.
func TestLettersOfNothing(t *testing.T) {
	for _, tree := range append(allTrees(), letterTree(4), nil) {
		for _, n := range somePeers() {
			holdLetter(t, tree, n, impl.Letter{}, false)
			holdLetter(t, tree, n, impl.Letter{View: 1}, false)
			for kind := impl.LtBlock; kind <= impl.LtView; kind++ {
				// Of View 0 there is no letter; of View 1 only one that begins it has nothing to say beside it.
				holdLetter(t, tree, n, impl.Letter{Kind: kind}, false)
				holdLetter(t, tree, n, impl.Letter{Kind: kind, View: 1}, kind == impl.LtView && n >= 1)
			}
		}
	}
}

func TestLetterKinds(t *testing.T) {
	tree := letterTree(4)
	for _, l := range []impl.Letter{
		{Kind: impl.LtBlock, From: 1, To: 2, View: 2, Block: 2, Qc: tree[2].Just},
		{Kind: impl.LtVote, From: 1, To: 2, View: 2, Vote: impl.Vote{Phase: impl.PhOne, View: 2, Block: 2, By: 1}},
		{Kind: impl.LtQc, From: 1, To: 2, View: 2, Qc: impl.Qc{Phase: impl.PhOne, View: 2, Block: 2, Signers: 7}},
		{Kind: impl.LtView, From: 1, To: 2, View: 3, Qc: impl.Qc{Phase: impl.PhOne, View: 2, Block: 2, Signers: 7}},
	} {
		right := l.Kind
		for _, kind := range []int{math.MinInt, -1, 0, 1, 2, 3, 4, 5, 6, 257, math.MaxInt} {
			l.Kind = kind
			holdLetter(t, tree, 4, l, kind == right)
		}
	}
	// What begins a View is, with nothing beside it, only an LtView.
	for _, kind := range []int{math.MinInt, -1, 0, 1, 2, 3, 4, 5, 6, 260, math.MaxInt} {
		holdLetter(t, tree, 4, impl.Letter{Kind: kind, From: 1, To: 2, View: 3}, kind == impl.LtView)
	}
}

func TestLetterFromAndTo(t *testing.T) {
	for n := 1; n <= impl.MaxPeers; n++ {
		tree := letterTree(n)
		for _, l := range rightLetters(tree, n) {
			for _, who := range []int{math.MinInt, -n, -1, 0, n - 1, n, n + 1, impl.MaxPeers, math.MaxInt} {
				from, to := l, l
				from.From, to.To = who, who
				from.Vote.By = 0
				if l.Kind == impl.LtVote {
					from.Vote.By = who
				}
				holdLetter(t, tree, n, from, who >= 0 && who < n)
				holdLetter(t, tree, n, to, who >= 0 && who < n)
			}
		}
	}
}

// How many there may be is asked only of what is signed: of votes, and of a Qc that is something.
func TestLetterPeers(t *testing.T) {
	tree := letterTree(1)
	vote := impl.Vote{Phase: impl.PhOne, View: 1, Block: 1}
	one, all := impl.Qc{Phase: impl.PhOne, View: 1, Block: 1, Signers: 1}, impl.Qc{Phase: impl.PhOne, View: 1, Block: 1, Signers: 127}
	for _, n := range somePeers() {
		peers := n >= 1 && n <= impl.MaxPeers
		holdLetter(t, tree, n, impl.Letter{Kind: impl.LtBlock, View: 1, Block: 1}, n >= 1)
		holdLetter(t, tree, n, impl.Letter{Kind: impl.LtBlock, View: 2, Block: 2, Qc: tree[2].Just}, n == 1)
		holdLetter(t, tree, n, impl.Letter{Kind: impl.LtVote, View: 1, Vote: vote}, peers)
		holdLetter(t, tree, n, impl.Letter{Kind: impl.LtQc, View: 1, Qc: one}, n == 1)
		holdLetter(t, tree, n, impl.Letter{Kind: impl.LtQc, View: 1, Qc: all}, n == impl.MaxPeers)
		holdLetter(t, tree, n, impl.Letter{Kind: impl.LtView, View: 2}, n >= 1)
		holdLetter(t, tree, n, impl.Letter{Kind: impl.LtView, View: 2, Qc: one}, n == 1)
		holdLetter(t, tree, n, impl.Letter{Kind: impl.LtView, View: 2, Qc: all}, n == impl.MaxPeers)
	}
}

func TestLetterViews(t *testing.T) {
	tree := letterTree(4)
	views := []int{math.MinInt, -1, 0, 1, 2, 3, impl.MaxView - 1, impl.MaxView, impl.MaxView + 1, math.MaxInt}
	for _, view := range views {
		known := view >= 1 && view <= impl.MaxView
		holdLetter(t, tree, 4, impl.Letter{Kind: impl.LtView, View: view}, known)
		for k := 1; k < len(tree); k++ {
			of := tree[k].View
			q := impl.Qc{Phase: impl.PhTwo, View: of, Block: k, Signers: 15}
			holdLetter(t, tree, 4, impl.Letter{Kind: impl.LtBlock, View: view, Block: k, Qc: tree[k].Just}, view == of)
			holdLetter(t, tree, 4, impl.Letter{Kind: impl.LtVote, View: view, Vote: impl.Vote{Phase: impl.PhTwo, View: of, Block: k}}, view == of)
			holdLetter(t, tree, 4, impl.Letter{Kind: impl.LtQc, View: view, Qc: q}, view == of)
			holdLetter(t, tree, 4, impl.Letter{Kind: impl.LtView, View: view, Qc: q}, known && of < view)
		}
	}
	// Blocks of a View that there can't be are not shown, and get no vote.
	for _, view := range []int{math.MinInt, -1, 0, impl.MaxView + 1, math.MaxInt} {
		wrong := []impl.Block{first(), {View: view}}
		holdLetter(t, wrong, 4, impl.Letter{Kind: impl.LtBlock, View: view, Block: 1}, false)
		holdLetter(t, wrong, 4, impl.Letter{Kind: impl.LtVote, View: view, Vote: impl.Vote{Phase: impl.PhOne, View: view, Block: 1}}, false)
		holdLetter(t, wrong, 4, impl.Letter{Kind: impl.LtQc, View: view, Qc: impl.Qc{Phase: impl.PhOne, View: view, Block: 1, Signers: 15}}, false)
	}
}

func TestLetterBlocks(t *testing.T) {
	tree := letterTree(4)
	for _, block := range askedPlaces(tree) {
		for k := range tree {
			l := impl.Letter{Kind: impl.LtBlock, From: 3, View: tree[k].View, Block: block, Qc: tree[k].Just}
			same := block > 0 && block < len(tree) && tree[block].View == tree[k].View && tree[block].Just == tree[k].Just
			holdLetter(t, tree, 4, l, same)
		}
	}
	// The last place, and one past the end; the first block is not shown, whatever View it has.
	last := len(tree) - 1
	shown := impl.Letter{Kind: impl.LtBlock, View: tree[last].View, Block: last, Qc: tree[last].Just}
	holdLetter(t, tree, 4, shown, true)
	holdLetter(t, tree[:last], 4, shown, false)
	holdLetter(t, []impl.Block{{View: 1}, {View: 1}}, 4, impl.Letter{Kind: impl.LtBlock, View: 1}, false)
	holdLetter(t, []impl.Block{{View: 1}, {View: 1}}, 4, impl.Letter{Kind: impl.LtBlock, View: 1, Block: 1}, true)
	holdLetter(t, tree, 4, impl.Letter{Kind: impl.LtBlock, View: 0, Block: 0}, false)
}

func TestLetterJusts(t *testing.T) {
	tree := hollowTree()
	if !impl.TreeOk(tree) {
		t.Fatal("the tree is not right")
	}
	right := impl.Qc{Phase: impl.PhOne, View: 1, Block: 1, Signers: 15}
	for k := 1; k < len(tree); k++ {
		l := impl.Letter{Kind: impl.LtBlock, To: 1, View: tree[k].View, Block: k, Qc: tree[k].Just}
		// Its Just, and right or not.
		holdLetter(t, tree, 4, l, k <= 2)
		// Right, and not its Just.
		l.Qc = right
		holdLetter(t, tree, 4, l, k == 2)
		l.Qc.Signers = 7
		holdLetter(t, tree, 4, l, false)
		l.Qc = impl.Qc{}
		holdLetter(t, tree, 4, l, k == 1)
	}
	// Each part of the Just is looked at.
	for _, turned := range []func(*impl.Qc){
		func(q *impl.Qc) { q.Phase = impl.PhTwo }, func(q *impl.Qc) { q.View, q.Block = 2, 2 }, func(q *impl.Qc) { q.Signers = 14 },
	} {
		l := impl.Letter{Kind: impl.LtBlock, To: 1, View: 2, Block: 2, Qc: right}
		turned(&l.Qc)
		holdQc(t, tree, 4, l.Qc, true)
		holdLetter(t, tree, 4, l, false)
	}
}

func TestLetterVotes(t *testing.T) {
	tree := letterTree(4)
	right := impl.Letter{Kind: impl.LtVote, From: 2, To: 0, View: 2, Vote: impl.Vote{Phase: impl.PhTwo, View: 2, Block: 3, By: 2}}
	holdLetter(t, tree, 4, right, true)
	for _, phase := range somePhases() {
		l := right
		l.Vote.Phase = phase
		holdLetter(t, tree, 4, l, phase >= 1 && phase <= 4)
	}
	for _, by := range someBys() {
		l := right
		l.Vote.By = by
		holdLetter(t, tree, 4, l, by == right.From)
	}
	for _, block := range askedPlaces(tree) {
		l := right
		l.Vote.Block = block
		holdLetter(t, tree, 4, l, block == 2 || block == 3)
	}
	// A vote of another View than the letter's, right as it may be in itself.
	other := right
	other.Vote = impl.Vote{Phase: impl.PhTwo, View: 1, Block: 1, By: 2}
	holdVote(t, tree, 4, other.Vote, true)
	holdLetter(t, tree, 4, other, false)
	other.View = 1
	holdLetter(t, tree, 4, other, true)
	other.Vote = impl.Vote{}
	holdLetter(t, tree, 4, other, false)
}

func TestLetterQcs(t *testing.T) {
	tree := letterTree(4)
	for _, signers := range someSigners() {
		q := impl.Qc{Phase: impl.PhThree, View: 2, Block: 2, Signers: signers}
		enough := signers >= 0 && signers < 16 && plainCount(signers) >= 3
		holdLetter(t, tree, 4, impl.Letter{Kind: impl.LtQc, View: 2, Qc: q}, enough)
		holdLetter(t, tree, 4, impl.Letter{Kind: impl.LtView, View: 3, Qc: q}, enough)
	}
	for _, phase := range somePhases() {
		q := impl.Qc{Phase: phase, View: 2, Block: 2, Signers: 15}
		holdLetter(t, tree, 4, impl.Letter{Kind: impl.LtQc, View: 2, Qc: q}, phase >= 1 && phase <= 4)
		holdLetter(t, tree, 4, impl.Letter{Kind: impl.LtView, View: 3, Qc: q}, phase >= 1 && phase <= 4)
	}
	// Of this View, of others, and of nothing.
	for _, c := range []struct {
		q        impl.Qc
		view     int
		qc, more bool
	}{
		{impl.Qc{Phase: 1, View: 2, Block: 2, Signers: 7}, 1, false, false}, {impl.Qc{Phase: 1, View: 2, Block: 2, Signers: 7}, 2, true, false}, {impl.Qc{Phase: 1, View: 2, Block: 2, Signers: 7}, 3, false, true}, {impl.Qc{Phase: 1, View: 2, Block: 2, Signers: 7}, impl.MaxView, false, true},
		{impl.Qc{Phase: 1, View: 7, Block: 5, Signers: 14}, 6, false, false}, {impl.Qc{Phase: 1, View: 7, Block: 5, Signers: 14}, 7, true, false}, {impl.Qc{Phase: 1, View: 7, Block: 5, Signers: 14}, 8, false, true},
		{impl.Qc{}, 1, false, true}, {impl.Qc{}, 2, false, true}, {impl.Qc{}, impl.MaxView, false, true}, {impl.Qc{}, 0, false, false},
		{impl.Qc{Signers: 15}, 2, false, false}, {impl.Qc{Phase: 1}, 2, false, false}, {impl.Qc{View: -1}, 2, false, false}, {impl.Qc{View: 2}, 2, false, false}, {impl.Qc{Phase: 1, View: 3, Block: 2, Signers: 15}, 3, false, false},
	} {
		holdLetter(t, tree, 4, impl.Letter{Kind: impl.LtQc, View: c.view, Qc: c.q}, c.qc)
		holdLetter(t, tree, 4, impl.Letter{Kind: impl.LtView, View: c.view, Qc: c.q}, c.more)
	}
}

// What a Kind does not say is nothing in each of its parts.
func TestLettersSayNoMore(t *testing.T) {
	said := map[int][]string{
		impl.LtBlock: {"Block", "Qc.Phase", "Qc.View", "Qc.Block", "Qc.Signers"},
		impl.LtVote:  {"Vote.Phase", "Vote.View", "Vote.Block", "Vote.By"},
		impl.LtQc:    {"Qc.Phase", "Qc.View", "Qc.Block", "Qc.Signers"},
		impl.LtView:  {"Qc.Phase", "Qc.View", "Qc.Block", "Qc.Signers"},
	}
	tree := letterTree(4)
	refused := map[int]int{}
	for _, l := range rightLetters(tree, 4) {
		for name := range letterFields(&l) {
			if slices.Contains(append([]string{"Kind", "From", "To", "View"}, said[l.Kind]...), name) {
				continue
			}
			for _, num := range fieldNumbers() {
				other := l
				*letterFields(&other)[name] = num
				holdLetter(t, tree, 4, other, num == 0)
			}
			refused[l.Kind]++
		}
		// Something that would be right of another Kind is too much, too.
		whole := l
		switch l.Kind {
		case impl.LtVote:
			whole.Qc = impl.Qc{Phase: l.Vote.Phase, View: l.View, Block: l.Vote.Block, Signers: 15}
		default:
			whole.Vote = impl.Vote{Phase: impl.PhOne, View: 1, Block: 1, By: l.From}
		}
		holdLetter(t, tree, 4, whole, false)
		if l.Kind != impl.LtBlock {
			whole = l
			whole.Block = 2
			holdLetter(t, tree, 4, whole, false)
		}
	}
	for kind := impl.LtBlock; kind <= impl.LtView; kind++ {
		if refused[kind] == 0 {
			t.Errorf("no letter of Kind %d was asked", kind)
		}
	}
}

func TestLetterOkByTheWords(t *testing.T) {
	right, wrong := 0, 0
	hold := func(tree []impl.Block, n int, l impl.Letter) {
		want := plainLetterOk(tree, n, l)
		holdLetter(t, tree, n, l, want)
		if want {
			right++
		} else {
			wrong++
		}
	}
	for _, n := range []int{1, 4, 7} {
		tree := letterTree(n)
		for _, l := range rightLetters(tree, n) {
			for _, other := range turnedLetters(l) {
				hold(tree, n, other)
			}
			for _, peers := range somePeers() {
				hold(tree, peers, l)
			}
		}
	}
	for _, tree := range append(allTrees(), hollowTree(), letterTree(4)) {
		for _, l := range append(rightLetters(letterTree(4), 4), wildLetters()...) {
			hold(tree, 4, l)
		}
	}
	if right < 1000 || wrong < 1000 {
		t.Errorf("only %d letters are right, and %d not", right, wrong)
	}
}

// The tree is asked for the blocks that a letter names alone: whether it is right is not looked at.
func TestLetterOkOfWrongTrees(t *testing.T) {
	shown := impl.Letter{Kind: impl.LtBlock, View: 5, Block: 2}
	begun := impl.Letter{Kind: impl.LtView, View: 5}
	for _, tree := range [][]impl.Block{nil, {}} {
		for _, l := range rightLetters(letterTree(4), 4) {
			holdLetter(t, tree, 4, l, l.Kind == impl.LtView && l.Qc == impl.Qc{})
		}
		holdLetter(t, tree, 4, shown, false)
		holdLetter(t, tree, 4, begun, true)
	}
	holdLetter(t, []impl.Block{{}, {}, {View: 5}}, 4, shown, true)
	holdLetter(t, []impl.Block{{}, {}, {View: 4}}, 4, shown, false)
	long := make([]impl.Block, 200)
	long[199] = impl.Block{Parent: math.MinInt, View: 5, Cmds: make([]impl.Cmd, 9), Just: impl.Qc{Phase: 1, View: 5, Block: 199, Signers: 15}}
	holdLetter(t, long, 4, impl.Letter{Kind: impl.LtBlock, View: 5, Block: 199, Qc: long[199].Just}, true)
	holdLetter(t, long, 4, impl.Letter{Kind: impl.LtQc, View: 5, Qc: long[199].Just}, true)
	for _, tree := range wrongTrees() {
		holdLetter(t, tree, 4, begun, true)
	}
}

func TestVoteAndQcTextBytes(t *testing.T) {
	for _, c := range []struct {
		numbers [4]int
		want    string
	}{
		{[4]int{}, "\x00\x00\x00\x00"}, {[4]int{1, 2, 3, 4}, "\x01\x02\x03\x04"}, {[4]int{4, 900, 59, 6}, "\x04\x84\x07\x3b\x06"},
		{[4]int{127, 128, 0, 129}, "\x7f\x80\x01\x00\x81\x01"}, {[4]int{16383, 16384, 1, 300}, "\xff\x7f\x80\x80\x01\x01\xac\x02"},
		{[4]int{-1, 5, -128, math.MinInt}, "\x00\x05\x00\x00"},
		{[4]int{impl.MaxNumber, impl.MaxNumber + 1, 0, 0}, "\x80\x94\xeb\xdc\x03\x81\x94\xeb\xdc\x03\x00\x00"},
		{[4]int{0, math.MaxInt, 0, 1}, "\x00\xff\xff\xff\xff\xff\xff\xff\xff\x7f\x00\x01"},
	} {
		n := c.numbers
		if got := impl.VoteText(impl.Vote{Phase: n[0], View: n[1], Block: n[2], By: n[3]}); got != c.want {
			t.Errorf("VoteText of %v = %q, want %q", n, got, c.want)
		}
		if got := impl.QcText(impl.Qc{Phase: n[0], View: n[1], Block: n[2], Signers: n[3]}); got != c.want {
			t.Errorf("QcText of %v = %q, want %q", n, got, c.want)
		}
	}
}

func TestVoteAndQcTextByTheWords(t *testing.T) {
	for _, l := range append(wildLetters(), turnedLetters(impl.Letter{})...) {
		if got, want := impl.VoteText(l.Vote), plainVoteText(l.Vote); got != want {
			t.Fatalf("VoteText(%+v) = %q, want %q", l.Vote, got, want)
		}
		if got, want := impl.QcText(l.Qc), plainQcText(l.Qc); got != want {
			t.Fatalf("QcText(%+v) = %q, want %q", l.Qc, got, want)
		}
	}
	// Within its limits each number is just VarText of it.
	for _, n := range []int{0, 1, 127, 128, 16383, 16384, impl.MaxNumber - 1, impl.MaxNumber} {
		text, ok := impl.VarText(n)
		if got := impl.QcText(impl.Qc{View: n}); !ok || got != "\x00"+text+"\x00\x00" {
			t.Errorf("QcText of the View %d = %q", n, got)
		}
		if got := impl.VoteText(impl.Vote{By: n}); got != "\x00\x00\x00"+text {
			t.Errorf("VoteText of the By %d = %q", n, got)
		}
	}
}

func TestBlockTextBytes(t *testing.T) {
	long := strings.Repeat("x", impl.MaxText+1)
	for _, c := range []struct {
		b    impl.Block
		want string
	}{
		{first(), "\x00\x00\x00\x00\x00\x00\x00"}, {impl.Block{}, "\x01\x00\x00\x00\x00\x00\x00"}, {impl.Block{Parent: -2}, "\x00\x00\x00\x00\x00\x00\x00"}, {impl.Block{Parent: math.MinInt}, "\x00\x00\x00\x00\x00\x00\x00"},
		{impl.Block{Parent: 126}, "\x7f\x00\x00\x00\x00\x00\x00"}, {impl.Block{Parent: 127}, "\x80\x01\x00\x00\x00\x00\x00\x00"}, {impl.Block{Parent: impl.MaxNumber - 1}, "\x80\x94\xeb\xdc\x03\x00\x00\x00\x00\x00\x00"}, {impl.Block{Parent: impl.MaxNumber}, "\x81\x94\xeb\xdc\x03\x00\x00\x00\x00\x00\x00"},
		{impl.Block{Parent: math.MaxInt}, "\x80\x80\x80\x80\x80\x80\x80\x80\x80\x01\x00\x00\x00\x00\x00\x00"}, {impl.Block{Parent: math.MaxInt - 1}, "\xff\xff\xff\xff\xff\xff\xff\xff\x7f\x00\x00\x00\x00\x00\x00"},
		{impl.Block{Parent: 1, View: 2, Cmds: []impl.Cmd{set("a", 1), take("bc", 300)}, Just: impl.Qc{Phase: 4, View: 1, Block: 1, Signers: 7}}, "\x02\x02\x02\x01\x01a\x01\x03\x02bc\xac\x02\x04\x01\x01\x07"},
		{impl.Block{View: -5, Cmds: []impl.Cmd{{Kind: -1, Key: "", Num: -9}}, Just: impl.Qc{Phase: -1, View: -2, Block: -3, Signers: -4}}, "\x01\x00\x01\x00\x00\x00\x00\x00\x00\x00"},
		{impl.Block{View: math.MaxInt, Cmds: make([]impl.Cmd, 5)}, "\x01\xff\xff\xff\xff\xff\xff\xff\xff\x7f\x05" + strings.Repeat("\x00", 15) + "\x00\x00\x00\x00"},
		{impl.Block{Cmds: []impl.Cmd{{Kind: 1, Key: long, Num: impl.MaxNumber + 1}}}, "\x01\x00\x01\x01\xa1\x9c\x01" + long + "\x81\x94\xeb\xdc\x03\x00\x00\x00\x00"},
	} {
		if got := impl.BlockText(c.b); got != c.want {
			t.Errorf("BlockText(%.100v) = %.100q, want %.100q", c.b, got, c.want)
		}
	}
}

func TestBlockTextByTheWords(t *testing.T) {
	for _, b := range wildBlocks() {
		if got, want := impl.BlockText(b), plainBlockText(b); got != want {
			t.Fatalf("BlockText(%.100v) = %.100q, want %.100q", b, got, want)
		}
	}
	if a, b := impl.BlockText(impl.Block{Cmds: []impl.Cmd{}}), impl.BlockText(impl.Block{}); a != b {
		t.Errorf("BlockText without Cmds is %q and %q", a, b)
	}
}

func TestLetterTextBytes(t *testing.T) {
	for _, c := range []struct {
		l    impl.Letter
		want string
	}{
		{impl.Letter{}, strings.Repeat("\x00", 13)},
		{impl.Letter{Kind: 1, From: 2, To: 3, View: 4, Block: 5, Qc: impl.Qc{Phase: 6, View: 7, Block: 8, Signers: 9}, Vote: impl.Vote{Phase: 10, View: 11, Block: 12, By: 13}}, "\x01\x02\x03\x04\x05\x06\x07\x08\x09\x0a\x0b\x0c\x0d"},
		{impl.Letter{Kind: 2, View: 900, Vote: impl.Vote{Phase: 1, View: 900, Block: 59, By: 6}}, "\x02\x00\x00\x84\x07\x00\x00\x00\x00\x00\x01\x84\x07\x3b\x06"},
		{impl.Letter{Kind: -1, From: math.MinInt, View: impl.MaxNumber + 1, Qc: impl.Qc{Signers: -1}}, "\x00\x00\x00\x81\x94\xeb\xdc\x03" + strings.Repeat("\x00", 9)},
	} {
		if got, want := impl.LetterText(c.l), sealed(t, c.want); got != want {
			t.Errorf("LetterText(%+v) = %q, want %q", c.l, got, want)
		}
	}
	for _, l := range append(wildLetters(), turnedLetters(rightLetters(letterTree(4), 4)[0])...) {
		if got, want := impl.LetterText(l), plainSealed(plainBody(l)); got != want {
			t.Fatalf("LetterText(%+v) = %q, want %q", l, got, want)
		}
	}
}

// Promise 8: letters that are right come back from their texts, every field.
func TestLettersComeBack(t *testing.T) {
	kinds := map[int]int{}
	for n := 1; n <= impl.MaxPeers; n++ {
		tree := letterTree(n)
		for _, l := range rightLetters(tree, n) {
			holdLetter(t, tree, n, l, true)
			text := impl.LetterText(l)
			holdReadLetter(t, text, l, true)
			kinds[l.Kind]++
		}
	}
	for kind := impl.LtBlock; kind <= impl.LtView; kind++ {
		if kinds[kind] == 0 {
			t.Errorf("no letter of Kind %d came back", kind)
		}
	}
}

// Promise 8: blocks that are right come back from their texts, every field, and so do all of a tree.
func TestBlocksComeBack(t *testing.T) {
	for _, tree := range append(rightTrees(), letterTree(4), letterTree(7), hollowTree(), branches()) {
		for _, b := range tree {
			holdReadBlock(t, impl.BlockText(b), blockNotBelow(b), true)
		}
		for parent := range tree {
			for _, view := range []int{tree[parent].View + 1, 128, impl.MaxView} {
				for _, cmds := range [][]impl.Cmd{nil, {set("a", 0)}, {set("a", 1), add("b", 127), take("abc", 128), set("zzz", impl.MaxNumber)}} {
					b := on(tree, parent, view, cmds...)
					if impl.BlockOk(tree, b) {
						holdReadBlock(t, impl.BlockText(b), b, true)
					}
				}
			}
		}
	}
	for _, c := range rightCmds() {
		b := on(rowWith(2), 1, 3, c, c)
		holdReadBlock(t, impl.BlockText(b), b, true)
	}
	// The first block, and one that stands on it: both have a text of their own.
	holdReadBlock(t, impl.BlockText(first()), first(), true)
	holdReadBlock(t, impl.BlockText(impl.Block{}), impl.Block{}, true)
}

// Unlike letters and unlike blocks have unlike texts.
func TestTextsTellApart(t *testing.T) {
	letters := map[string]impl.Letter{}
	tree := letterTree(4)
	for _, l := range append(turnedLetters(rightLetters(tree, 4)[3]), rightLetters(tree, 4)...) {
		text := impl.LetterText(l)
		if was, there := letters[text]; there && was != notBelow(l) {
			t.Fatalf("%+v and %+v have one text", was, l)
		}
		letters[text] = notBelow(l)
	}
	blocks := map[string]impl.Block{}
	for _, b := range wildBlocks() {
		text := impl.BlockText(b)
		if was, there := blocks[text]; there && !plainSame(was, blockNotBelow(b)) {
			t.Fatalf("%.100v and %.100v have one text", was, b)
		}
		blocks[text] = blockNotBelow(b)
	}
}

// What is in no range is told all the same. Numbers below 0 are told, and so read, as 0; those that are too great for VarText come back.
func TestWildFieldsAreTold(t *testing.T) {
	for _, l := range append(wildLetters(), turnedLetters(impl.Letter{})...) {
		holdReadLetter(t, impl.LetterText(l), notBelow(l), true)
	}
	for _, b := range wildBlocks() {
		holdReadBlock(t, impl.BlockText(b), blockNotBelow(b), true)
	}
}

// A byte that is turned, one more and one fewer: none is a letter any more.
func TestTurnedLetterTexts(t *testing.T) {
	tree := letterTree(4)
	for i, l := range append(rightLetters(tree, 4), impl.Letter{}) {
		text := impl.LetterText(l)
		for at := range len(text) {
			for turn := 1; turn < 256; turn++ {
				if i > 12 && turn&(turn-1) != 0 {
					continue
				}
				refusesLetter(t, text[:at]+string([]byte{text[at] ^ byte(turn)})+text[at+1:])
			}
			refusesLetter(t, text[:at])
			refusesLetter(t, text[at+1:])
			refusesLetter(t, text[:at]+text[at+1:])
		}
		for b := range 256 {
			more := string([]byte{byte(b)})
			refusesLetter(t, text+more)
			refusesLetter(t, more+text)
		}
		refusesLetter(t, text+text)
	}
}

// The seal alone makes no letter: what is sealed must be one.
func TestSealedTextsThatAreNoLetters(t *testing.T) {
	refusesLetter(t, "")
	refusesLetter(t, sealed(t, ""))
	l := impl.Letter{Kind: 1, From: 2, To: 3, View: 4, Block: 5, Qc: impl.Qc{Phase: 6, View: 7, Block: 8, Signers: 9}, Vote: impl.Vote{Phase: 10, View: 11, Block: 12, By: 13}}
	body := plainBody(l)
	holdReadLetter(t, sealed(t, body), l, true)
	refusesLetter(t, body)
	refusesLetter(t, sealed(t, sealed(t, body)))
	for at := range len(body) {
		refusesLetter(t, sealed(t, body[:at]))
		refusesLetter(t, sealed(t, body[at+1:]))
		// A byte that says that the number goes on takes the next one's place; a text ends in none.
		refusesLetter(t, sealed(t, body[:at]+"\x80"+body[at+1:]))
	}
	for b := range 256 {
		refusesLetter(t, sealed(t, body+string([]byte{byte(b)})))
	}
	refusesLetter(t, sealed(t, strings.Repeat("\x80", impl.MaxText)))
	refusesLetter(t, sealed(t, strings.Repeat("\x00", impl.MaxText)))
	refusesLetter(t, plainSealed(strings.Repeat("\x00", impl.MaxText+1)))
}

// longerForms are bytes that go on for longer than the number that they tell needs.
func longerForms(n int) []string {
	short := plainNumbers(n)
	last := len(short) - 1
	var out []string
	for _, more := range []string{"\x00", "\x80\x00", "\x80\x80\x80\x00", strings.Repeat("\x80", 8) + "\x00", strings.Repeat("\x80", 9) + "\x00", strings.Repeat("\x80", 30) + "\x00"} {
		out = append(out, short[:last]+string([]byte{short[last] + 128})+more)
	}
	return out
}

func TestLongerFormsAreNone(t *testing.T) {
	numbers := []int{1, 0, 3, 900, 127, 128, 0, 16384, impl.MaxNumber, 4, 2, 59, 6}
	for at := range numbers {
		ahead, behind := plainNumbers(numbers[:at]...), plainNumbers(numbers[at+1:]...)
		if _, ok := impl.ReadLetter(sealed(t, ahead+plainNumbers(numbers[at])+behind)); !ok {
			t.Fatalf("a letter of %v is read as none", numbers)
		}
		for _, long := range longerForms(numbers[at]) {
			refusesLetter(t, sealed(t, ahead+long+behind))
		}
	}
	parts := []string{"\x02", "\x07", "\x02", "\x01", "\x01", "a", "\x05", "\x03", "\x02", "bc", "\xac\x02", "\x04", "\x01", "\x01", "\x07"}
	if _, ok := impl.ReadBlock(strings.Join(parts, "")); !ok {
		t.Fatalf("a block of %q is read as none", parts)
	}
	for at, part := range parts {
		if part == "a" || part == "bc" {
			continue
		}
		n, _, ok := numbersAt(part, 1)
		if !ok {
			t.Fatalf("%q tells no number", part)
		}
		for _, long := range longerForms(n[0]) {
			refusesBlock(t, strings.Join(parts[:at], "")+long+strings.Join(parts[at+1:], ""))
		}
	}
}

// Numbers that no int has are none: two to the power of 63 and above. A Parent may be one less than that.
func TestNumbersThatNobodyHas(t *testing.T) {
	power := func(bits uint) *big.Int { return new(big.Int).Lsh(big.NewInt(1), bits) }
	for _, n := range []*big.Int{power(63), new(big.Int).Add(power(63), big.NewInt(1)), new(big.Int).Sub(power(64), big.NewInt(1)), power(64), new(big.Int).Add(power(64), big.NewInt(5)), power(70), power(77), power(128), power(700)} {
		text := plainVar(n)
		for at := range 13 {
			refusesLetter(t, sealed(t, strings.Repeat("\x01", at)+text+strings.Repeat("\x01", 12-at)))
		}
		block := impl.Block{Parent: math.MaxInt}
		if n.Cmp(power(63)) == 0 {
			holdReadBlock(t, text+strings.Repeat("\x00", 6), block, true)
		} else {
			refusesBlock(t, text+strings.Repeat("\x00", 6))
		}
		for at := 1; at < 7; at++ {
			refusesBlock(t, strings.Repeat("\x00", at)+text+strings.Repeat("\x00", 6-at))
		}
		// In a command: Kind, the length of Key, and Num.
		refusesBlock(t, "\x00\x00\x01"+text+"\x01k\x00"+"\x00\x00\x00\x00")
		refusesBlock(t, "\x00\x00\x01\x01"+text+"k\x00"+"\x00\x00\x00\x00")
		refusesBlock(t, "\x00\x00\x01\x01\x01k"+text+"\x00\x00\x00\x00")
	}
}

// Each beginning of a block's text, and one with more behind it, is none.
func TestCutBlockTexts(t *testing.T) {
	refusesBlock(t, "")
	for _, b := range slices.Concat(letterTree(4), wildBlocks()) {
		text := impl.BlockText(b)
		if len(text) > 2000 {
			continue
		}
		for at := range len(text) {
			refusesBlock(t, text[:at])
		}
		for more := range 256 {
			refusesBlock(t, text+string([]byte{byte(more)}))
		}
		refusesBlock(t, text+text)
	}
}

func TestBlockTextLengthsAndCounts(t *testing.T) {
	body := "\x02\x07\x01\x01\x03abc\x05\x04\x01\x01\x07"
	b := impl.Block{Parent: 1, View: 7, Cmds: []impl.Cmd{set("abc", 5)}, Just: impl.Qc{Phase: 4, View: 1, Block: 1, Signers: 7}}
	holdReadBlock(t, body, b, true)
	// The length of Key: more than there are, and so few that its own bytes are taken for numbers.
	for _, length := range []int{0, 1, 2, 4, 5, 8, 9, 10, 127, 128, impl.MaxText, impl.MaxText + 1, impl.MaxNumber, math.MaxInt - 9, math.MaxInt} {
		refusesBlock(t, "\x02\x07\x01\x01"+plainNumbers(length)+body[5:])
	}
	// How many Cmds: more than there are, and fewer.
	for _, count := range []int{0, 2, 3, 4, 5, 127, 128, impl.MaxNumber, impl.MaxNumber + 1, 1 << 40, math.MaxInt} {
		refusesBlock(t, "\x02\x07"+plainNumbers(count)+body[3:])
	}
	// Two right readings there never are: what follows the count says how the rest is read.
	holdReadBlock(t, "\x02\x07\x00\x04\x01\x01\x07", impl.Block{Parent: 1, View: 7, Just: b.Just}, true)
	holdReadBlock(t, "\x02\x07\x01\x00\x00\x00\x04\x01\x01\x07", impl.Block{Parent: 1, View: 7, Cmds: []impl.Cmd{{}}, Just: b.Just}, true)
	// A long text with a great count is gone through once.
	start := time.Now()
	refusesBlock(t, "\x02\x07"+plainNumbers(math.MaxInt)+strings.Repeat("\x00", 300000))
	refusesBlock(t, "\x02\x07"+plainNumbers(100000)+strings.Repeat("\x00", 300003))
	refusesBlock(t, strings.Repeat("\xff", 3000000))
	if spent := time.Since(start); spent > 20*time.Second {
		t.Errorf("ReadBlock takes %v", spent)
	}
}

func TestReadZeroAndMaxNumber(t *testing.T) {
	for _, num := range []int{0, 1, impl.MaxNumber - 1, impl.MaxNumber} {
		for name := range letterFields(&impl.Letter{}) {
			l := impl.Letter{Kind: 1, View: 1}
			*letterFields(&l)[name] = num
			holdReadLetter(t, impl.LetterText(l), l, true)
		}
		for _, b := range []impl.Block{
			{Parent: num}, {View: num}, {Just: impl.Qc{Phase: num}}, {Just: impl.Qc{View: num}}, {Just: impl.Qc{Block: num}}, {Just: impl.Qc{Signers: num}},
			{Cmds: []impl.Cmd{{Kind: num}}}, {Cmds: []impl.Cmd{set("abc", num), add("d", num)}},
		} {
			holdReadBlock(t, impl.BlockText(b), b, true)
		}
	}
}

// smallTexts are all texts of these bytes that are not longer than that.
func smallTexts(bytes string, size int) []string {
	all, last := []string{""}, []string{""}
	for range size {
		var next []string
		for _, t := range last {
			for i := range len(bytes) {
				next = append(next, t+bytes[i:i+1])
			}
		}
		all, last = append(all, next...), next
	}
	return all
}

// What is read with true has that very text, and nothing else is read: of all short texts of some bytes.
func TestReadBlockOfAllSmallTexts(t *testing.T) {
	read, refused := 0, 0
	for _, text := range slices.Concat(smallTexts("\x00\x01\x80", 11), smallTexts("\x00\x02\x7f\x81", 8), smallTexts("\x00\xff", 15)) {
		want, there := plainReadBlock(text)
		holdReadBlock(t, text, want, there)
		if there {
			read++
			if b, _ := impl.ReadBlock(text); impl.BlockText(b) != text {
				t.Fatalf("ReadBlock(%q) = %v, whose text is %q", text, b, impl.BlockText(b))
			}
		} else {
			refused++
		}
	}
	if read < 1000 || refused < 1000 {
		t.Errorf("only %d texts are blocks, and %d not", read, refused)
	}
}

func TestReadBlockOfTurnedTexts(t *testing.T) {
	read, refused := 0, 0
	for _, b := range append(letterTree(4), someBlocks()...) {
		text := impl.BlockText(b)
		for at := range min(len(text), 80) {
			for _, turn := range []byte{1, 2, 3, 4, 64, 127, 128, 129, 255} {
				turned := text[:at] + string([]byte{text[at] ^ turn}) + text[at+1:]
				want, there := plainReadBlock(turned)
				holdReadBlock(t, turned, want, there)
				if !there {
					refused++
					continue
				}
				read++
				if impl.BlockText(want) != turned {
					t.Fatalf("%q is read as %v, whose text is %q", turned, want, impl.BlockText(want))
				}
			}
		}
	}
	if read < 1000 || refused < 1000 {
		t.Errorf("only %d texts are blocks, and %d not", read, refused)
	}
}

// Bodies of letters are drawn from bytes that begin, go on and end numbers, and from some numbers too many or too few.
func TestReadLetterOfDrawnTexts(t *testing.T) {
	read, refused, seed := 0, 0, uint32(7)
	for range 40000 {
		seed = seed*1664525 + 1013904223
		var body []byte
		for range 12 + seed>>20%4 {
			seed = seed*1664525 + 1013904223
			for range seed >> 28 % 3 {
				body = append(body, byte(128+seed>>9%128))
			}
			body = append(body, byte(seed>>17%128))
			if seed>>13%40 == 0 {
				body = append(body, "\x80\x00"...)
			}
		}
		text := sealed(t, string(body))
		want, there := plainReadBody(string(body))
		holdReadLetter(t, text, want, there)
		if !there {
			refused++
			continue
		}
		read++
		if got := impl.LetterText(want); got != text {
			t.Fatalf("%q is read as %+v, whose text is %q", text, want, got)
		}
	}
	if read < 1000 || refused < 1000 {
		t.Errorf("only %d texts are letters, and %d not", read, refused)
	}
}

func TestLetterArgumentsStay(t *testing.T) {
	for _, tree := range append(wrongTrees(), letterTree(4), hollowTree()) {
		whole, front := roomyTree(tree)
		was := wholeTree(whole)
		for _, l := range append(rightLetters(letterTree(4), 4), wildLetters()...) {
			if got := impl.LetterOk(front, 4, l); got != plainLetterOk(tree, 4, l) {
				t.Fatalf("LetterOk(%.300v, 4, %+v) = %v with spare room behind the tree", tree, l, got)
			}
		}
		for _, b := range front {
			// What stands in the spare room behind the Cmds is not told.
			if got, want := impl.BlockText(b), plainBlockText(b); got != want {
				t.Fatalf("BlockText(%.100v) = %.100q", b, got)
			}
		}
		if !sameTree(wholeTree(whole), was) {
			t.Fatalf("the tree is changed: %v, was %v", whole, was)
		}
	}
	// A block that stands in the spare room of a tree is none of it.
	tree := letterTree(4)
	for size := range tree {
		for _, l := range rightLetters(tree, 4) {
			holdLetter(t, tree[:size], 4, l, plainLetterOk(tree[:size], 4, l))
		}
	}
}

// inside tells whether a text stands in the memory of another one.
func inside(part string, whole string) bool {
	if part == "" || whole == "" {
		return false
	}
	at, start := uintptr(unsafe.Pointer(unsafe.StringData(part))), uintptr(unsafe.Pointer(unsafe.StringData(whole)))
	return at >= start && at < start+uintptr(len(whole))
}

func TestReadBlockAnswersNewMemory(t *testing.T) {
	b := impl.Block{Cmds: []impl.Cmd{set("abc", 1), add("abc", 2), take("de", 3), set(strings.Repeat("k", 300), 4)}}
	bytes := []byte(impl.BlockText(b))
	text := unsafe.String(&bytes[0], len(bytes))
	got, ok := impl.ReadBlock(text)
	again, _ := impl.ReadBlock(text)
	if !ok || !plainSame(got, b) {
		t.Fatalf("ReadBlock(%q) = %v, %v", text, got, ok)
	}
	for _, key := range cmdKeys([]impl.Block{got}) {
		if inside(key, text) {
			t.Errorf("the key %.10q stands in the text that was handed in", key)
		}
	}
	if !ownKeys(cmdKeys([]impl.Block{got, again})) || unsafe.SliceData(got.Cmds) == unsafe.SliceData(again.Cmds) {
		t.Error("ReadBlock answers one memory twice")
	}
	soilCmds(again.Cmds)
	for i := range bytes {
		bytes[i] = 'x'
	}
	if !plainSame(got, b) {
		t.Errorf("ReadBlock answers what is written elsewhere later: %v", got)
	}
}

// What is told stands in new memory, too: neither a key nor a text that was read is written out as it is.
func TestTextsAreNewMemory(t *testing.T) {
	key := strings.Repeat("k", 300)
	b := impl.Block{Cmds: []impl.Cmd{set(key, 1)}}
	if text := impl.BlockText(b); inside(text, key) || inside(key, text) || inside(text, impl.BlockText(b)) {
		t.Error("BlockText answers an argument's memory, or one memory twice")
	}
	l := rightLetters(letterTree(4), 4)[0]
	if text := impl.LetterText(l); inside(text, impl.LetterText(l)) {
		t.Error("LetterText answers one memory twice")
	}
	if text := impl.QcText(l.Qc); inside(text, impl.QcText(l.Qc)) {
		t.Error("QcText answers one memory twice")
	}
	if text := impl.VoteText(l.Vote); inside(text, impl.VoteText(l.Vote)) {
		t.Error("VoteText answers one memory twice")
	}
}

// The chapter 'Ways': letters are types behind one interface, told apart in a type switch. Each Kind's type has all of the interface's own methods, and a case of its own.
func TestLettersAreTypesBehindOneInterface(t *testing.T) {
	file, err := parser.ParseFile(token.NewFileSet(), "../impl/l08_letter.go", nil, 0)
	if err != nil {
		t.Fatal(err)
	}
	asked, has := interfaceMethods(file), methodsByType(file)
	if len(asked) == 0 {
		t.Fatal("no interface has methods")
	}
	told := 0
	ast.Inspect(file, func(n ast.Node) bool {
		cases, ok := n.(*ast.TypeSwitchStmt)
		if !ok {
			return true
		}
		for _, c := range cases.Body.List {
			for _, e := range c.(*ast.CaseClause).List {
				of, ok := e.(*ast.Ident)
				if ok && slices.ContainsFunc(has[of.Name], func(m string) bool { return slices.Contains(asked, m) }) {
					told++
				}
			}
		}
		return true
	})
	if told < 4 {
		t.Errorf("%d types behind the interface are told apart in a type switch, want one for each Kind", told)
	}
}

func interfaceMethods(file *ast.File) []string {
	var names []string
	ast.Inspect(file, func(n ast.Node) bool {
		if i, ok := n.(*ast.InterfaceType); ok {
			for _, m := range i.Methods.List {
				for _, name := range m.Names {
					names = append(names, name.Name)
				}
			}
		}
		return true
	})
	return names
}

func methodsByType(file *ast.File) map[string][]string {
	has := map[string][]string{}
	for _, d := range file.Decls {
		if f, ok := d.(*ast.FuncDecl); ok && f.Recv != nil {
			if of, ok := f.Recv.List[0].Type.(*ast.Ident); ok {
				has[of.Name] = append(has[of.Name], f.Name.Name)
			}
		}
	}
	return has
}
