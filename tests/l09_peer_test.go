package tests

import (
	"fmt"
	"go/ast"
	"go/parser"
	"go/token"
	"math"
	"math/big"
	"slices"
	"strings"
	"testing"
	"time"
	"unsafe"

	"loop.example/g00330/impl"
)

// signedQc is one that all of n have signed.
func signedQc(tree []impl.Block, n int, phase int, block int) impl.Qc {
	return impl.Qc{Phase: phase, View: tree[block].View, Block: block, Signers: 1<<n - 1}
}

// withTheRest is that replica with something in all that it does not keep.
func withTheRest(p impl.Peer) impl.Peer {
	p.Cells = []impl.Cell{{Key: "x", Num: 9}, {Key: "y", Num: 8}}
	p.Early = []int{1}
	p.Undos = []impl.Undo{had("x", 3), gone("y")}
	p.Votes = votesOf(impl.PhOne, 1, 1, 7)
	p.News = []impl.Letter{{Kind: impl.LtView, View: 2}, {Kind: impl.LtView, From: 1, View: 2}}
	p.Shown = 5
	return p
}

// rightPeers are replicas that are right in a letterTree among n: with an empty Row, with Rows of one block and of several, and with all that may be nothing as such and as something.
func rightPeers(tree []impl.Block, n int) []impl.Peer {
	var out []impl.Peer
	for k := range tree {
		for i, view := range []int{1, 2, 127, 128, impl.MaxView - 1, impl.MaxView} {
			p := impl.Peer{Id: (k + i) % n, View: view, Row: plainRowTo(tree, k)}
			out = append(out, p, withTheRest(p))
			for block := 1; block < len(tree); block++ {
				phase := 1 + (block+i)%4
				q := signedQc(tree, n, phase, block)
				vote := impl.Vote{Phase: phase, View: tree[block].View, Block: block, By: p.Id}
				for _, more := range []impl.Peer{{High: q}, {Lock: q}, {Last: vote}, {High: q, Lock: tree[block].Just, Last: vote}, {High: tree[block].Just, Lock: q}} {
					more.Id, more.View, more.Row = p.Id, p.View, p.Row
					out = append(out, more)
				}
			}
			p.High, p.Lock = signedQc(tree, n, impl.PhChain, 2), signedQc(tree, n, impl.PhTwo, 1)
			p.Last = impl.Vote{Phase: impl.PhChain, View: 7, Block: 5, By: p.Id}
			p.Early = []int{0, len(tree) - 1, 3, 3}
			out = append(out, p)
		}
	}
	return out
}

// keptNumbers are the places of all numbers, but those of Row, that a replica keeps, in the order of its text.
func keptNumbers(p *impl.Peer) []*int {
	return []*int{
		&p.Id, &p.View, &p.High.Phase, &p.High.View, &p.High.Block, &p.High.Signers, &p.Lock.Phase, &p.Lock.View, &p.Lock.Block, &p.Lock.Signers,
		&p.Last.Phase, &p.Last.View, &p.Last.Block, &p.Last.By,
	}
}

// numbered is a replica whose kept numbers are these, in the order of its text.
func numbered(numbers []int, row ...int) impl.Peer {
	var p impl.Peer
	for i, num := range keptNumbers(&p) {
		*num = numbers[i]
	}
	p.Row = row
	return p
}

// turnedPeers are replicas that are each but one kept number away from that one.
func turnedPeers(p impl.Peer) []impl.Peer {
	var out []impl.Peer
	for i := range keptNumbers(&p) {
		was := *keptNumbers(&p)[i]
		for _, num := range append(fieldNumbers(), was-1, was+1) {
			other := p
			*keptNumbers(&other)[i] = num
			out = append(out, other)
		}
	}
	return out
}

// wildPeers are replicas whose numbers and Rows are in no range.
func wildPeers() []impl.Peer {
	out := append(turnedPeers(impl.Peer{}), turnedPeers(withTheRest(impl.Peer{Row: []int{2, 300, -1}}))...)
	for i, a := range fieldNumbers() {
		b := fieldNumbers()[(i*7+3)%len(fieldNumbers())]
		all := numbered(slices.Repeat([]int{a}, 14), a)
		out = append(out, all, withTheRest(all), numbered(slices.Repeat([]int{a, b}, 7), b, a, b), impl.Peer{Row: []int{a}}, impl.Peer{Row: []int{0, a, b, a}})
	}
	for _, size := range []int{0, 1, 2, 126, 127, 128, 129, 16383, 16384} {
		out = append(out, impl.Peer{View: 1, Row: make([]int, size)}, impl.Peer{Id: 3, Row: slices.Repeat([]int{59}, size)})
	}
	return append(out, impl.Peer{Row: fieldNumbers()}, impl.Peer{Cells: cellsWith(20), Early: []int{-1, math.MaxInt}, Undos: []impl.Undo{{Key: "WRONG", Num: -1}}, Votes: someVotes(), News: wildLetters(), Shown: math.MinInt})
}

// longRow is a replica whose text, without its seal, is of that many bytes.
func longRow(t *testing.T, id int, size int) impl.Peer {
	t.Helper()
	p := impl.Peer{Id: id, View: 7}
	for len(plainKeptBody(p)) < size {
		p.Row = append(p.Row, slices.Repeat([]int{1}, size-len(plainKeptBody(p)))...)
		if over := len(plainKeptBody(p)) - size; over > 0 {
			p.Row = p.Row[over:]
		}
	}
	if len(plainKeptBody(p)) != size {
		t.Fatalf("there is no such Row for a text of %d bytes", size)
	}
	return p
}

// plainPeerOk, plainKeptBody, plainKeptText, plainReadKept, plainRowCells, plainFallen and plainSaidTwice are the chapter's own words, sentence by sentence.
func plainPeerOk(tree []impl.Block, n int, p impl.Peer) bool {
	if p.Id < 0 || p.Id >= n || p.View < 1 || p.View > 900 {
		return false
	}
	if !plainQcRight(tree, n, p.High) || !plainQcRight(tree, n, p.Lock) {
		return false
	}
	if p.Last != (impl.Vote{}) && (!plainVoteOk(tree, n, p.Last) || p.Last.By != p.Id) {
		return false
	}
	if len(p.Row) > 0 && !slices.Equal(p.Row, plainRowTo(tree, p.Row[len(p.Row)-1])) {
		return false
	}
	for _, k := range slices.Concat(p.Row, p.Early) {
		if k < 0 || k >= len(tree) {
			return false
		}
	}
	return true
}

func plainKeptBody(p impl.Peer) string {
	return plainNumbers(p.Id, p.View) + plainQcText(p.High) + plainQcText(p.Lock) + plainVoteText(p.Last) + plainNumbers(len(p.Row)) + plainRowText(p.Row)
}

func plainRowText(row []int) string {
	var out strings.Builder
	for _, k := range row {
		out.WriteString(plainNumbers(k))
	}
	return out.String()
}

func plainKeptText(p impl.Peer) string {
	body := plainKeptBody(p)
	if len(body) > 20000 {
		return ""
	}
	return plainSealed(body)
}

// plainReadKept goes through a text without its seal number by number, and looks at the form of each one.
func plainReadKept(body string) (impl.Peer, bool) {
	head, rest, ok := numbersAt(body, 15)
	if !ok {
		return impl.Peer{}, false
	}
	row, rest, ok := numbersAt(rest, head[14])
	if !ok || rest != "" {
		return impl.Peer{}, false
	}
	return numbered(head, row...), true
}

func plainRowCells(tree []impl.Block, row []int) []impl.Cell {
	var list []impl.Cell
	for _, k := range row {
		if k < 0 || k >= len(tree) {
			continue
		}
		for _, c := range tree[k].Cmds {
			list, _ = plainDone(list, c)
		}
	}
	return list
}

func plainFallen(tree []impl.Block, p impl.Peer) impl.Peer {
	if len(plainKeptBody(p)) > 20000 {
		return impl.Peer{Id: p.Id, View: 1}
	}
	kept := peerNotBelow(p)
	kept.Cells = plainRowCells(tree, kept.Row)
	return kept
}

func plainSaidTwice(votes []impl.Vote) bool {
	for _, a := range votes {
		for _, b := range votes {
			if a.By == b.By && a.Phase == b.Phase && a.View == b.View && a.Block != b.Block {
				return true
			}
		}
	}
	return false
}

// peerNotBelow is what a replica keeps as its text tells it: nothing else, and numbers below 0 are 0.
func peerNotBelow(p impl.Peer) impl.Peer {
	kept := impl.Peer{Id: p.Id, View: p.View, High: p.High, Lock: p.Lock, Last: p.Last, Row: slices.Clone(p.Row)}
	for _, num := range keptNumbers(&kept) {
		*num = max(*num, 0)
	}
	for i, k := range kept.Row {
		kept.Row[i] = max(k, 0)
	}
	return kept
}

// samePeer holds every field; an empty list and nil are the same.
func samePeer(a impl.Peer, b impl.Peer) bool {
	return a.Id == b.Id && a.View == b.View && a.High == b.High && a.Lock == b.Lock && a.Last == b.Last && slices.Equal(a.Row, b.Row) &&
		slices.Equal(a.Cells, b.Cells) && slices.Equal(a.Early, b.Early) && slices.Equal(a.Undos, b.Undos) && slices.Equal(a.Votes, b.Votes) && slices.Equal(a.News, b.News) && a.Shown == b.Shown
}

// brief is what a fault tells of a value: its beginning.
func brief(v any) string {
	text := fmt.Sprintf("%+v", v)
	return text[:min(len(text), 300)]
}

func holdPeer(t *testing.T, tree []impl.Block, n int, p impl.Peer, want bool) {
	t.Helper()
	if got := impl.PeerOk(tree, n, p); got != want {
		t.Fatalf("PeerOk(%s, %d, %s) = %v", brief(tree), n, brief(p), got)
	}
}

func holdReadKept(t *testing.T, text string, want impl.Peer, there bool) {
	t.Helper()
	if got, ok := impl.ReadKept(text); !samePeer(got, want) || ok != there {
		t.Fatalf("ReadKept(%.100q) = %s, %v, want %s, %v", text, brief(got), ok, brief(want), there)
	}
}

func refusesKept(t *testing.T, text string) {
	t.Helper()
	holdReadKept(t, text, impl.Peer{}, false)
}

func holdFallen(t *testing.T, tree []impl.Block, p impl.Peer, want impl.Peer) {
	t.Helper()
	if got := impl.Fallen(tree, p); !samePeer(got, want) {
		t.Fatalf("Fallen(%s, %s) = %s, want %s", brief(tree), brief(p), brief(got), brief(want))
	}
}

func holdRowCells(t *testing.T, tree []impl.Block, row []int, want []impl.Cell) {
	t.Helper()
	if got := impl.RowCells(tree, row); !slices.Equal(got, want) {
		t.Fatalf("RowCells(%s, %s) = %v, want %v", brief(tree), brief(row), got, want)
	}
}

func holdSaidTwice(t *testing.T, votes []impl.Vote, want bool) {
	t.Helper()
	if got := impl.SaidTwice(votes); got != want {
		t.Fatalf("SaidTwice(%s) = %v", brief(votes), got)
	}
}

func TestPeerNew(t *testing.T) {
	for _, id := range append(fieldNumbers(), someBys()...) {
		if got := impl.PeerNew(id); !samePeer(got, impl.Peer{Id: id, View: 1}) {
			t.Errorf("PeerNew(%d) = %+v", id, got)
		}
	}
	// A new one is right in every tree, when its Id is one of n.
	for _, tree := range [][]impl.Block{nil, {first()}, letterTree(4), wrongTrees()[4]} {
		for _, n := range somePeers() {
			for _, id := range []int{math.MinInt, -1, 0, n - 1, n, math.MaxInt} {
				holdPeer(t, tree, n, impl.PeerNew(id), id >= 0 && id < n)
			}
		}
	}
}

func TestPeersThatAreRight(t *testing.T) {
	for n := 1; n <= impl.MaxPeers; n++ {
		tree := letterTree(n)
		for _, p := range rightPeers(tree, n) {
			holdPeer(t, tree, n, p, true)
		}
	}
}

func TestPeerIdsAndViews(t *testing.T) {
	for n := 1; n <= impl.MaxPeers; n++ {
		tree := letterTree(n)
		for _, id := range []int{math.MinInt, -n, -1, 0, n - 1, n, n + 1, impl.MaxPeers, math.MaxInt} {
			p := impl.Peer{Id: id, View: 3, High: signedQc(tree, n, impl.PhOne, 1), Row: []int{1}}
			holdPeer(t, tree, n, p, id >= 0 && id < n)
		}
		for _, view := range []int{math.MinInt, -1, 0, 1, 2, impl.MaxView - 1, impl.MaxView, impl.MaxView + 1, math.MaxInt} {
			holdPeer(t, tree, n, impl.Peer{View: view}, view >= 1 && view <= impl.MaxView)
			holdPeer(t, tree, n, impl.Peer{Id: n - 1, View: view, Row: []int{1, 2}}, view >= 1 && view <= impl.MaxView)
		}
	}
	// Of nothing there is none, since its View is 0.
	for _, tree := range append(allTrees(), nil) {
		holdPeer(t, tree, 4, impl.Peer{}, false)
	}
}

// How many there may be is asked only of what is signed: of votes, and of a Qc that is something.
func TestPeerPeers(t *testing.T) {
	tree := letterTree(1)
	one, all := signedQc(tree, 1, impl.PhOne, 1), signedQc(tree, impl.MaxPeers, impl.PhOne, 1)
	for _, n := range somePeers() {
		peers := n >= 1 && n <= impl.MaxPeers
		holdPeer(t, tree, n, impl.Peer{View: 1}, n >= 1)
		holdPeer(t, tree, n, impl.Peer{View: 1, Row: []int{1, 2}, Early: []int{3}}, n >= 1)
		holdPeer(t, tree, n, impl.Peer{View: 1, Last: impl.Vote{Phase: impl.PhOne, View: 1, Block: 1}}, peers)
		holdPeer(t, tree, n, impl.Peer{View: 1, High: one}, n == 1)
		holdPeer(t, tree, n, impl.Peer{View: 1, Lock: one}, n == 1)
		holdPeer(t, tree, n, impl.Peer{View: 1, High: all}, n == impl.MaxPeers)
		holdPeer(t, tree, n, impl.Peer{View: 1, Lock: all}, n == impl.MaxPeers)
	}
}

func TestPeerHighAndLock(t *testing.T) {
	tree := letterTree(4)
	right := signedQc(tree, 4, impl.PhTwo, 2)
	for _, c := range []struct {
		q    impl.Qc
		want bool
	}{
		{impl.Qc{}, true}, {right, true}, {signedQc(tree, 4, impl.PhChain, 6), true}, {impl.Qc{Phase: 2, View: 2, Block: 2, Signers: 7}, true}, {impl.Qc{Phase: 2, View: 2, Block: 3, Signers: 14}, true},
		{impl.Qc{Phase: 2, View: 2, Block: 2, Signers: 3}, false}, {impl.Qc{Phase: 2, View: 2, Block: 2, Signers: 16 + 7}, false}, {impl.Qc{Phase: 2, View: 2, Block: 2, Signers: -1}, false}, {impl.Qc{Phase: 2, View: 2, Block: 2}, false},
		{impl.Qc{Phase: 0, View: 2, Block: 2, Signers: 15}, false}, {impl.Qc{Phase: 5, View: 2, Block: 2, Signers: 15}, false}, {impl.Qc{Phase: 2, View: 3, Block: 2, Signers: 15}, false}, {impl.Qc{Phase: 2, View: 2, Block: 1, Signers: 15}, false},
		{impl.Qc{Phase: 2, Signers: 15}, false}, {impl.Qc{Signers: 15}, false}, {impl.Qc{Phase: 1}, false}, {impl.Qc{Phase: 2, View: 2, Block: len(tree), Signers: 15}, false}, {impl.Qc{Phase: 2, View: 2, Block: -1, Signers: 15}, false},
	} {
		// Each by itself, whatever the other one is.
		for _, other := range []impl.Qc{{}, right} {
			holdPeer(t, tree, 4, impl.Peer{Id: 1, View: 1, High: c.q, Lock: other}, c.want)
			holdPeer(t, tree, 4, impl.Peer{Id: 1, View: 1, High: other, Lock: c.q}, c.want)
		}
		holdPeer(t, tree, 4, impl.Peer{Id: 1, View: 1, High: c.q, Lock: c.q}, c.want)
	}
	// Which of both is higher, and whether they are above the replica's View, is not asked.
	holdPeer(t, tree, 4, impl.Peer{View: 1, High: signedQc(tree, 4, impl.PhOne, 1), Lock: signedQc(tree, 4, impl.PhThree, 6)}, true)
}

func TestPeerLast(t *testing.T) {
	tree := letterTree(4)
	right := impl.Vote{Phase: impl.PhThree, View: 2, Block: 3, By: 2}
	holdPeer(t, tree, 4, impl.Peer{Id: 2, View: 1, Last: right}, true)
	for _, id := range []int{0, 1, 3} {
		holdVote(t, tree, 4, right, true)
		holdPeer(t, tree, 4, impl.Peer{Id: id, View: 1, Last: right}, false)
	}
	for _, by := range someBys() {
		p := impl.Peer{Id: 2, View: 1, Last: right}
		p.Last.By = by
		holdPeer(t, tree, 4, p, by == 2)
	}
	for _, phase := range somePhases() {
		p := impl.Peer{Id: 2, View: 1, Last: right}
		p.Last.Phase = phase
		holdPeer(t, tree, 4, p, phase >= 1 && phase <= 4)
	}
	for _, block := range askedPlaces(tree) {
		p := impl.Peer{Id: 2, View: 1, Last: right}
		p.Last.Block = block
		holdPeer(t, tree, 4, p, block == 2 || block == 3)
	}
	for _, view := range []int{math.MinInt, -1, 0, 1, 2, 3, 7, impl.MaxView + 1} {
		p := impl.Peer{Id: 2, View: 1, Last: right}
		p.Last.View = view
		holdPeer(t, tree, 4, p, view == 2)
	}
	// Nothing is all of it: a By alone, its own even, is something.
	for id := range 4 {
		holdPeer(t, tree, 4, impl.Peer{Id: id, View: 1}, true)
		holdPeer(t, tree, 4, impl.Peer{Id: id, View: 1, Last: impl.Vote{By: id}}, id == 0)
		holdPeer(t, tree, 4, impl.Peer{Id: id, View: 1, Last: impl.Vote{Phase: impl.PhOne, By: id}}, false)
	}
}

func TestPeerRows(t *testing.T) {
	tree := branches() // 0 - 1 - 2 - 3 - 8, 0 - 4 - 5, 2 - 6 - 7, 3 - 9
	for _, c := range []struct {
		row  []int
		want bool
	}{
		{nil, true}, {[]int{}, true}, {[]int{1}, true}, {[]int{4}, true}, {[]int{1, 2}, true}, {[]int{1, 2, 3, 8}, true}, {[]int{1, 2, 3, 9}, true}, {[]int{1, 2, 6, 7}, true}, {[]int{4, 5}, true},
		// One left out, at each place.
		{[]int{2}, false}, {[]int{2, 3, 8}, false}, {[]int{1, 3, 8}, false}, {[]int{1, 2, 8}, false}, {[]int{5}, false}, {[]int{9}, false},
		// In another order.
		{[]int{2, 1}, false}, {[]int{1, 3, 2, 8}, false}, {[]int{8, 3, 2, 1}, false}, {[]int{2, 1, 3, 8}, false}, {[]int{1, 2, 8, 3}, false},
		// One twice.
		{[]int{1, 1}, false}, {[]int{1, 1, 2}, false}, {[]int{1, 2, 2}, false}, {[]int{1, 2, 3, 3, 8}, false}, {[]int{1, 2, 3, 8, 1}, false},
		// Places that are none.
		{[]int{-1}, false}, {[]int{math.MinInt}, false}, {[]int{-1, 1, 2}, false}, {[]int{1, -1, 2}, false}, {[]int{1, 2, -1}, false}, {[]int{10}, false}, {[]int{1, 2, 10}, false}, {[]int{1, 10, 2}, false}, {[]int{math.MaxInt}, false},
		// The first block stands in no row.
		{[]int{0}, false}, {[]int{0, 0}, false}, {[]int{0, 1}, false}, {[]int{0, 1, 2}, false}, {[]int{1, 0}, false}, {[]int{1, 2, 0}, false},
		// Two ways in one.
		{[]int{1, 4}, false}, {[]int{4, 5, 8}, false}, {[]int{1, 2, 3, 6, 7}, false}, {[]int{1, 2, 3, 8, 9}, false}, {[]int{4, 2, 3, 8}, false},
	} {
		holdPeer(t, tree, 4, impl.Peer{Id: 3, View: 1, Row: c.row}, c.want)
		holdPeer(t, tree, 4, impl.Peer{Id: 3, View: 1, Row: c.row, Early: []int{9, 0}}, c.want)
	}
	// All rows there can be of a long tree, and each one cut short at its end.
	long := rowWith(impl.MaxBlocks)
	for k := range long {
		row := plainRowTo(long, k)
		for size := range len(row) + 1 {
			holdPeer(t, long, 4, impl.Peer{View: 1, Row: row[:size]}, true)
			holdPeer(t, long, 4, impl.Peer{View: 1, Row: row[len(row)-size:]}, size == 0 || size == len(row))
		}
		holdPeer(t, long[:k], 4, impl.Peer{View: 1, Row: row}, k == 0)
	}
}

func TestPeerEarly(t *testing.T) {
	tree := branches()
	for _, c := range []struct {
		early []int
		want  bool
	}{
		{nil, true}, {[]int{}, true}, {[]int{0}, true}, {[]int{1}, true}, {[]int{9}, true}, {[]int{0, 1, 2, 3, 4, 5, 6, 7, 8, 9}, true}, {[]int{9, 3, 3, 0, 0}, true},
		{[]int{-1}, false}, {[]int{10}, false}, {[]int{11}, false}, {[]int{math.MinInt}, false}, {[]int{math.MaxInt}, false},
		{[]int{-1, 1, 2}, false}, {[]int{1, -1, 2}, false}, {[]int{1, 2, -1}, false}, {[]int{10, 1, 2}, false}, {[]int{1, 10, 2}, false}, {[]int{1, 2, 10}, false}, {[]int{0, -10}, false},
	} {
		for _, row := range [][]int{nil, {4}, {1, 2, 3}} {
			holdPeer(t, tree, 4, impl.Peer{View: 1, Row: row, Early: c.early}, c.want)
		}
	}
	// A way down is not asked of them: a block whose Parent is not ahead of it is one of the tree.
	broken := withParent(tree, 3, 7)
	holdPeer(t, broken, 4, impl.Peer{View: 1, Early: []int{3, 8}}, true)
	holdPeer(t, broken, 4, impl.Peer{View: 1, Row: []int{1, 2, 3}}, false)
	holdPeer(t, broken, 4, impl.Peer{View: 1, Row: []int{3}}, false)
	holdPeer(t, broken, 4, impl.Peer{View: 1, Row: []int{1, 2}}, true)
}

// What the words do not name is not looked at.
func TestPeerOkAsksNoMore(t *testing.T) {
	tree := letterTree(4)
	p := impl.Peer{Id: 1, View: 2, Row: []int{1, 2}}
	for _, more := range []impl.Peer{
		{Cells: cellsWith(20)}, {Cells: wrongLists()[3]}, {Cells: []impl.Cell{{Key: "WRONG", Num: -1}}}, {Undos: wrongUndos()}, {Undos: []impl.Undo{{}}},
		{Votes: someVotes()}, {Votes: []impl.Vote{{By: -1}}}, {News: wildLetters()}, {Shown: -1}, {Shown: impl.MaxView + 1}, {Shown: math.MinInt},
	} {
		more.Id, more.View, more.Row = p.Id, p.View, p.Row
		holdPeer(t, tree, 4, more, true)
		more.View = 0
		holdPeer(t, tree, 4, more, false)
	}
}

func TestPeerOkOfEmptyTrees(t *testing.T) {
	full := letterTree(4)
	for _, tree := range [][]impl.Block{nil, {}} {
		holdPeer(t, tree, 4, impl.Peer{Id: 3, View: 1}, true)
		for _, k := range []int{-1, 0, 1} {
			holdPeer(t, tree, 4, impl.Peer{View: 1, Row: []int{k}}, false)
			holdPeer(t, tree, 4, impl.Peer{View: 1, Early: []int{k}}, false)
		}
		holdPeer(t, tree, 4, impl.Peer{View: 1, High: signedQc(full, 4, impl.PhOne, 1)}, false)
		holdPeer(t, tree, 4, impl.Peer{View: 1, Lock: signedQc(full, 4, impl.PhOne, 1)}, false)
		holdPeer(t, tree, 4, impl.Peer{View: 1, Last: impl.Vote{Phase: impl.PhOne, View: 1, Block: 1}}, false)
	}
}

func TestPeerOkByTheWords(t *testing.T) {
	right, wrong := 0, 0
	hold := func(tree []impl.Block, n int, p impl.Peer) {
		want := plainPeerOk(tree, n, p)
		holdPeer(t, tree, n, p, want)
		if want {
			right++
		} else {
			wrong++
		}
	}
	for _, n := range []int{1, 4, 7} {
		tree := letterTree(n)
		for i, p := range rightPeers(tree, n) {
			for _, peers := range somePeers() {
				hold(tree, peers, p)
			}
			if i%20 == 7 {
				for _, other := range turnedPeers(p) {
					hold(tree, n, other)
				}
			}
		}
	}
	for _, tree := range append(allTrees(), hollowTree()) {
		for k := range tree {
			row := plainRowTo(tree, k)
			hold(tree, 4, impl.Peer{View: 1, Row: row, Early: row})
			hold(tree, 4, impl.Peer{View: 1, Row: append([]int{k}, row...)})
			hold(tree, 4, impl.Peer{View: 1, Row: []int{tree[k].Parent, k}, Early: []int{tree[k].Parent}})
		}
		for i, p := range wildPeers() {
			if i%9 == len(tree)%9 {
				hold(tree, 4, p)
			}
		}
	}
	if right < 1000 || wrong < 1000 {
		t.Errorf("only %d replicas are right, and %d not", right, wrong)
	}
}

func TestKeptTextBytes(t *testing.T) {
	for _, c := range []struct {
		p    impl.Peer
		want string
	}{
		{impl.Peer{}, strings.Repeat("\x00", 15)},
		{impl.PeerNew(2), "\x02\x01" + strings.Repeat("\x00", 13)},
		{impl.PeerNew(-2), "\x00\x01" + strings.Repeat("\x00", 13)},
		{numbered([]int{1, 2, 3, 4, 5, 6, 7, 8, 9, 10, 11, 12, 13, 14}, 15, 16), "\x01\x02\x03\x04\x05\x06\x07\x08\x09\x0a\x0b\x0c\x0d\x0e\x02\x0f\x10"},
		{withTheRest(numbered([]int{127, 128, 0, 900, 59, 16384, 4, -1, 0, 300, 1, impl.MaxNumber, 2, math.MinInt}, 0)), "\x7f\x80\x01\x00\x84\x07\x3b\x80\x80\x01\x04\x00\x00\xac\x02\x01\x80\x94\xeb\xdc\x03\x02\x00\x01\x00"},
		{impl.Peer{View: impl.MaxNumber + 1, Row: []int{-1, math.MaxInt, -impl.MaxNumber, 128}}, "\x00\x81\x94\xeb\xdc\x03" + strings.Repeat("\x00", 12) + "\x04\x00\xff\xff\xff\xff\xff\xff\xff\xff\x7f\x00\x80\x01"},
		{impl.Peer{Row: slices.Repeat([]int{5}, 128)}, strings.Repeat("\x00", 14) + "\x80\x01" + strings.Repeat("\x05", 128)},
	} {
		if got, want := impl.KeptText(c.p), sealed(t, c.want); got != want {
			t.Errorf("KeptText(%s) = %.100q, want %.100q", brief(c.p), got, want)
		}
	}
}

func TestKeptTextByTheWords(t *testing.T) {
	for _, p := range append(wildPeers(), rightPeers(letterTree(4), 4)...) {
		if got, want := impl.KeptText(p), plainKeptText(p); got != want {
			t.Fatalf("KeptText(%s) = %.100q, want %.100q", brief(p), got, want)
		}
	}
	// Within its limits each number is just VarText of it, and a Qc and a vote are their own texts.
	for _, n := range []int{0, 1, 127, 128, 16383, 16384, impl.MaxNumber - 1, impl.MaxNumber} {
		text, ok := impl.VarText(n)
		q, v := impl.Qc{Phase: n, View: 1, Block: n, Signers: 2}, impl.Vote{Phase: 3, View: n, Block: 4, By: n}
		p := impl.Peer{Id: n, View: n, High: q, Lock: impl.Qc{Signers: n}, Last: v, Row: []int{n, n}}
		if got, want := impl.KeptText(p), sealed(t, text+text+impl.QcText(q)+impl.QcText(p.Lock)+impl.VoteText(v)+"\x02"+text+text); !ok || got != want {
			t.Errorf("KeptText of %d = %q, want %q", n, got, want)
		}
	}
	if a, b := impl.KeptText(impl.Peer{Row: []int{}}), impl.KeptText(impl.Peer{}); a != b {
		t.Errorf("KeptText without a Row is %q and %q", a, b)
	}
}

// What is not kept is not told: replicas that differ in nothing else have one text.
func TestKeptTextTellsWhatIsKept(t *testing.T) {
	for _, p := range rightPeers(letterTree(4), 4) {
		kept := impl.Peer{Id: p.Id, View: p.View, High: p.High, Lock: p.Lock, Last: p.Last, Row: p.Row}
		if impl.KeptText(p) != impl.KeptText(kept) || impl.KeptText(withTheRest(p)) != impl.KeptText(kept) {
			t.Fatalf("KeptText(%s) tells more than is kept", brief(p))
		}
	}
	// What is kept tells apart.
	texts := map[string]impl.Peer{}
	for _, p := range wildPeers() {
		text, kept := impl.KeptText(p), peerNotBelow(p)
		if was, there := texts[text]; there && !samePeer(was, kept) {
			t.Fatalf("%s and %s have one text", brief(was), brief(kept))
		}
		texts[text] = kept
	}
}

// Promise 9: replicas that are right come back from their texts with what they kept, and nothing else.
func TestPeersComeBack(t *testing.T) {
	rows := map[int]int{}
	for n := 1; n <= impl.MaxPeers; n++ {
		tree := letterTree(n)
		for _, p := range append(rightPeers(tree, n), impl.PeerNew(n-1)) {
			holdPeer(t, tree, n, p, true)
			kept := impl.Peer{Id: p.Id, View: p.View, High: p.High, Lock: p.Lock, Last: p.Last, Row: p.Row}
			holdReadKept(t, impl.KeptText(p), kept, true)
			holdReadKept(t, impl.KeptText(withTheRest(p)), kept, true)
			rows[len(p.Row)]++
		}
	}
	for size := range 4 {
		if rows[size] == 0 {
			t.Errorf("no replica with %d blocks came back", size)
		}
	}
	long := rowWith(impl.MaxBlocks)
	for k := range long {
		p := impl.Peer{Id: 1, View: impl.MaxView, Row: plainRowTo(long, k)}
		holdPeer(t, long, 4, p, true)
		holdReadKept(t, impl.KeptText(p), p, true)
	}
}

// Promise 9: a replica that fell has what it kept, the Cells that its Row makes, and nothing else.
func TestFallenKnowsWhatItKept(t *testing.T) {
	made := 0
	for n := 1; n <= impl.MaxPeers; n++ {
		tree := letterTree(n)
		for _, p := range append(rightPeers(tree, n), impl.PeerNew(0)) {
			holdPeer(t, tree, n, p, true)
			want := impl.Peer{Id: p.Id, View: p.View, High: p.High, Lock: p.Lock, Last: p.Last, Row: p.Row, Cells: plainRowCells(tree, p.Row)}
			holdFallen(t, tree, p, want)
			holdFallen(t, tree, withTheRest(p), want)
			holdPeer(t, tree, n, impl.Fallen(tree, p), true)
			// Who falls again, falls no deeper.
			holdFallen(t, tree, impl.Fallen(tree, withTheRest(p)), want)
			if len(want.Cells) > 0 {
				made++
			}
		}
	}
	if made < 100 {
		t.Errorf("only %d replicas have Cells", made)
	}
}

// What was done too early is not kept: it is gone from the Cells of one that fell.
func TestFallenForgetsWhatWasTooEarly(t *testing.T) {
	tree := branches()
	row, early := []int{1, 2}, []int{3, 8}
	cells := plainRowCells(tree, row)
	more, undos := impl.DoneBack(cells, []impl.Cmd{set("a", 3), set("q", 8)})
	p := impl.Peer{Id: 1, View: 9, Row: row, Cells: more, Early: early, Undos: undos, Votes: someVotes(), News: wildLetters(), Shown: 8}
	holdFallen(t, tree, p, impl.Peer{Id: 1, View: 9, Row: row, Cells: []impl.Cell{{Key: "a", Num: 2}}})
	p.Row = nil
	holdFallen(t, tree, p, impl.Peer{Id: 1, View: 9})
}

func TestFallenOfWildPeers(t *testing.T) {
	trees := [][]impl.Block{nil, {first()}, letterTree(4), branches(), {{Cmds: []impl.Cmd{set("a", 5)}}, {Parent: 7, Cmds: []impl.Cmd{add("a", 1), set("WRONG", 1)}}}, wrongTrees()[4]}
	for _, tree := range trees {
		for _, p := range wildPeers() {
			holdFallen(t, tree, p, plainFallen(tree, p))
		}
	}
	// What is told as 0 is read as 0, and makes what block 0 makes.
	tree := []impl.Block{{Cmds: []impl.Cmd{set("a", 5)}}}
	holdFallen(t, tree, impl.Peer{Id: -3, View: -1, Row: []int{-1}}, impl.Peer{Row: []int{0}, Cells: []impl.Cell{{Key: "a", Num: 5}}})
}

// A Row that is too long has no text: nothing is known any more but who it is.
func TestFallenOfWhatCannotBeRead(t *testing.T) {
	for _, id := range []int{0, 6, 127, -1, impl.MaxNumber, math.MinInt, math.MaxInt} {
		for _, size := range []int{impl.MaxText - 1, impl.MaxText, impl.MaxText + 1, impl.MaxText + 2, 2 * impl.MaxText} {
			p := withTheRest(longRow(t, id, size))
			p.High, p.Lock = impl.Qc{Phase: 1, View: 2, Block: 3, Signers: 4}, impl.Qc{Phase: 5, View: 6, Block: 7, Signers: 8}
			if size > impl.MaxText {
				holdFallen(t, letterTree(4), p, impl.PeerNew(id))
			} else {
				want := impl.Peer{Id: max(id, 0), View: 7, High: p.High, Lock: p.Lock, Row: p.Row, Cells: []impl.Cell{{Key: "a", Num: 1}}}
				holdFallen(t, letterTree(4), p, want)
			}
		}
	}
	p := impl.Peer{Id: 5, View: 9, Row: make([]int, 3*impl.MaxText)}
	holdFallen(t, nil, p, impl.Peer{Id: 5, View: 1})
}

func TestKeptTextsThatAreTooLong(t *testing.T) {
	for _, size := range []int{impl.MaxText - 1, impl.MaxText} {
		p := longRow(t, 3, size)
		text := impl.KeptText(p)
		if len(text) != size+4 {
			t.Fatalf("a text of %d bytes and a seal has %d", size, len(text))
		}
		holdReadKept(t, text, p, true)
	}
	for _, size := range []int{impl.MaxText + 1, impl.MaxText + 2, 3 * impl.MaxText} {
		p := longRow(t, 3, size)
		if text := impl.KeptText(p); text != "" {
			t.Errorf("a text of %d bytes is sealed: %.20q", size, text)
		}
		refusesKept(t, plainSealed(plainKeptBody(p)))
		refusesKept(t, plainKeptBody(p))
	}
}

// What is in no range is told all the same. Numbers below 0 are told, and so read, as 0; those that are too great for VarText come back.
func TestWildPeersAreTold(t *testing.T) {
	for _, p := range wildPeers() {
		holdReadKept(t, impl.KeptText(p), peerNotBelow(p), true)
	}
	for _, num := range []int{0, 127, 128, impl.MaxNumber, -1, math.MinInt} {
		for i := range keptNumbers(&impl.Peer{}) {
			p := impl.Peer{Id: 1, View: 1, Row: []int{1, num}}
			*keptNumbers(&p)[i] = num
			want := impl.Peer{Id: 1, View: 1, Row: []int{1, max(num, 0)}}
			*keptNumbers(&want)[i] = max(num, 0)
			holdReadKept(t, impl.KeptText(p), want, true)
		}
	}
}

// A byte that is turned, one more and one fewer: none is a replica any more.
func TestTurnedKeptTexts(t *testing.T) {
	tree := letterTree(4)
	for i, p := range append([]impl.Peer{{}, impl.PeerNew(3)}, rightPeers(tree, 4)...) {
		text := impl.KeptText(p)
		if i > 60 && i%7 != 0 {
			continue
		}
		for at := range len(text) {
			for turn := 1; turn < 256; turn++ {
				if i > 20 && turn&(turn-1) != 0 {
					continue
				}
				refusesKept(t, text[:at]+string([]byte{text[at] ^ byte(turn)})+text[at+1:])
			}
			refusesKept(t, text[:at])
			refusesKept(t, text[at+1:])
			refusesKept(t, text[:at]+text[at+1:])
		}
		for b := range 256 {
			more := string([]byte{byte(b)})
			refusesKept(t, text+more)
			refusesKept(t, more+text)
		}
		refusesKept(t, text+text)
	}
}

// The seal alone makes no replica: what is sealed must be one.
func TestSealedTextsThatAreNoReplicas(t *testing.T) {
	refusesKept(t, "")
	refusesKept(t, sealed(t, ""))
	p := numbered([]int{1, 2, 3, 4, 5, 6, 7, 8, 9, 10, 11, 12, 13, 14}, 15, 16, 17)
	body := plainKeptBody(p)
	holdReadKept(t, sealed(t, body), p, true)
	refusesKept(t, body)
	refusesKept(t, sealed(t, sealed(t, body)))
	for at := range len(body) {
		refusesKept(t, sealed(t, body[:at]))
		refusesKept(t, sealed(t, body[at+1:]))
		// A byte that says that the number goes on takes the next one's place; a text ends in none.
		refusesKept(t, sealed(t, body[:at]+"\x80"+body[at+1:]))
	}
	for b := range 256 {
		refusesKept(t, sealed(t, body+string([]byte{byte(b)})))
	}
	refusesKept(t, sealed(t, strings.Repeat("\x80", impl.MaxText)))
	refusesKept(t, sealed(t, strings.Repeat("\xff", impl.MaxText)))
	refusesKept(t, sealed(t, strings.Repeat("\x00", impl.MaxText)))
	refusesKept(t, sealed(t, strings.Repeat("\x01", impl.MaxText)))
	// A letter's text is none, nor is a replica's one of a letter.
	for _, l := range rightLetters(letterTree(4), 4) {
		refusesKept(t, impl.LetterText(l))
	}
	refusesLetter(t, impl.KeptText(p))
}

// How many Row: more than there are, and fewer.
func TestKeptRowCounts(t *testing.T) {
	head := strings.Repeat("\x01", 14)
	for size := range 6 {
		row := slices.Repeat([]int{2}, size)
		body := strings.Repeat("\x02", size)
		for count := range 9 {
			if count == size {
				holdReadKept(t, sealed(t, head+plainNumbers(count)+body), numbered(slices.Repeat([]int{1}, 14), row...), true)
			} else {
				refusesKept(t, sealed(t, head+plainNumbers(count)+body))
			}
		}
		for _, count := range []int{127, 128, impl.MaxText, impl.MaxNumber, impl.MaxNumber + 1, 1 << 40, math.MaxInt - 1, math.MaxInt} {
			refusesKept(t, sealed(t, head+plainNumbers(count)+body))
		}
	}
	start := time.Now()
	for range 20 {
		refusesKept(t, sealed(t, head+plainNumbers(math.MaxInt)+strings.Repeat("\x02", impl.MaxText-30)))
		refusesKept(t, sealed(t, head+plainNumbers(impl.MaxText-31)+strings.Repeat("\x02", impl.MaxText-30)))
	}
	if spent := time.Since(start); spent > 20*time.Second {
		t.Errorf("ReadKept takes %v", spent)
	}
}

// A number that stands in a longer form than it needs is none, wherever it stands: sealed or not.
func TestLongerFormsAreNoReplicas(t *testing.T) {
	numbers := []int{1, 0, 3, 900, 127, 128, 0, 16384, impl.MaxNumber, 4, 2, 59, 6, 0, 3, 0, 5, 300}
	whole := sealed(t, plainNumbers(numbers...))
	if _, ok := impl.ReadKept(whole); !ok {
		t.Fatalf("a replica of %v is read as none", numbers)
	}
	for at, n := range numbers {
		ahead, behind := plainNumbers(numbers[:at]...), plainNumbers(numbers[at+1:]...)
		for _, long := range longerForms(n) {
			refusesKept(t, sealed(t, ahead+long+behind))
		}
	}
	for _, long := range longerForms(0) {
		refusesKept(t, sealed(t, strings.Repeat("\x00", 14)+long))
	}
}

// Numbers that no int has are none: two to the power of 63 and above.
func TestKeptNumbersThatNobodyHas(t *testing.T) {
	power := func(bits uint) *big.Int { return new(big.Int).Lsh(big.NewInt(1), bits) }
	for _, n := range []*big.Int{power(63), new(big.Int).Add(power(63), big.NewInt(1)), new(big.Int).Sub(power(64), big.NewInt(1)), power(64), new(big.Int).Add(power(64), big.NewInt(1)), power(70), power(77), power(700)} {
		for at := range 16 {
			refusesKept(t, sealed(t, strings.Repeat("\x01", at)+plainVar(n)+strings.Repeat("\x01", 15-at)))
		}
		refusesKept(t, sealed(t, strings.Repeat("\x01", 14)+plainVar(n)))
	}
	holdReadKept(t, sealed(t, plainNumbers(math.MaxInt, math.MaxInt)+strings.Repeat("\x00", 12)+"\x01"+plainNumbers(math.MaxInt)), impl.Peer{Id: math.MaxInt, View: math.MaxInt, Row: []int{math.MaxInt}}, true)
}

// Bodies are drawn from bytes that begin, go on and end numbers, with a count that mostly fits. What is read with true has that very text.
func TestReadKeptOfDrawnTexts(t *testing.T) {
	read, refused, seed := 0, 0, uint32(11)
	draw := func() uint32 {
		seed = seed*1664525 + 1013904223
		return seed >> 8
	}
	for range 40000 {
		var body []byte
		size := int(draw() % 6)
		for i := range 15 + size {
			if i == 14 {
				body = append(body, byte(size)+byte(draw()%8/7))
				continue
			}
			for range draw() % 10 / 7 {
				body = append(body, byte(128+draw()%128))
			}
			body = append(body, byte(draw()%128))
			if draw()%60 == 0 {
				body = append(body, "\x80\x00"...)
			}
		}
		text := sealed(t, string(body))
		want, there := plainReadKept(string(body))
		holdReadKept(t, text, want, there)
		if !there {
			refused++
			continue
		}
		read++
		if got := impl.KeptText(want); got != text {
			t.Fatalf("%q is read as %v, whose text is %q", text, want, got)
		}
	}
	if read < 1000 || refused < 1000 {
		t.Errorf("only %d texts are replicas, and %d not", read, refused)
	}
}

func TestRowCells(t *testing.T) {
	tree := []impl.Block{first()}
	for _, cmds := range [][]impl.Cmd{
		{set("b", 5), set("a", 1)}, {add("b", 2), take("a", 1)}, nil, {take("b", 100), add("z", 1), set("WRONG", 1), {Kind: 9, Key: "a"}, add("a", 7)}, {set("b", 0)}, {add("b", impl.MaxNumber)},
	} {
		tree = append(tree, on(tree, len(tree)-1, len(tree), cmds...))
	}
	for _, c := range []struct {
		row  []int
		want []impl.Cell
	}{
		{nil, nil}, {[]int{}, nil}, {[]int{0}, nil}, {[]int{3}, nil}, {[]int{0, 3, 0}, nil},
		{[]int{1}, []impl.Cell{{Key: "a", Num: 1}, {Key: "b", Num: 5}}},
		{[]int{1, 2}, []impl.Cell{{Key: "a"}, {Key: "b", Num: 7}}},
		{[]int{1, 2, 3, 4}, []impl.Cell{{Key: "a", Num: 7}, {Key: "b", Num: 7}}},
		// In the order of the row, not of the tree.
		{[]int{2, 1}, []impl.Cell{{Key: "a", Num: 1}, {Key: "b", Num: 5}}}, {[]int{5, 1}, []impl.Cell{{Key: "a", Num: 1}, {Key: "b", Num: 5}}}, {[]int{1, 5}, []impl.Cell{{Key: "a", Num: 1}, {Key: "b"}}},
		// What is refused changes nothing.
		{[]int{2}, nil}, {[]int{4}, nil}, {[]int{6}, nil}, {[]int{1, 6}, []impl.Cell{{Key: "a", Num: 1}, {Key: "b", Num: 5}}}, {[]int{5, 6}, []impl.Cell{{Key: "b", Num: impl.MaxNumber}}}, {[]int{5, 6, 6}, []impl.Cell{{Key: "b", Num: impl.MaxNumber}}},
		// One twice is done twice.
		{[]int{1, 2, 2}, []impl.Cell{{Key: "a"}, {Key: "b", Num: 9}}}, {[]int{1, 2, 1}, []impl.Cell{{Key: "a", Num: 1}, {Key: "b", Num: 5}}},
		// What is no block of the tree has none, and those behind it are done.
		{[]int{-1}, nil}, {[]int{7}, nil}, {[]int{math.MinInt, math.MaxInt}, nil}, {[]int{-1, 1, 7, 2, 8, math.MinInt}, []impl.Cell{{Key: "a"}, {Key: "b", Num: 7}}},
	} {
		holdRowCells(t, tree, c.row, c.want)
	}
	// Without a tree there is nothing.
	for _, row := range [][]int{nil, {0}, {-1}, {1, 2, 3}} {
		holdRowCells(t, nil, row, nil)
	}
	// More accounts than there may be: the last ones are refused.
	var wide []impl.Block
	for i := range 20 {
		wide = append(wide, impl.Block{Cmds: []impl.Cmd{set(string([]byte{'z' - byte(i)}), i)}})
	}
	var all []int
	for k := range wide {
		all = append(all, k)
	}
	if got := impl.RowCells(wide, all); len(got) != impl.MaxCells || got[0].Key != "o" || got[11].Key != "z" {
		t.Errorf("RowCells of 20 accounts = %v", got)
	}
}

func TestRowCellsByTheWords(t *testing.T) {
	rich := []impl.Block{}
	for i, c := range slices.Concat(rightCmds(), wrongCmds()) {
		rich = append(rich, impl.Block{Parent: i, Cmds: []impl.Cmd{c, set("b", i), take("a", 1)}})
	}
	made := 0
	for _, tree := range append(allTrees(), letterTree(4), rich) {
		places := askedPlaces(tree)
		rows := [][]int{places, slices.Concat(places, places)}
		for i := range min(len(places), 40) {
			rows = append(rows, places[i:], places[:i], places[i:i+1])
		}
		for _, row := range rows {
			want := plainRowCells(tree, row)
			holdRowCells(t, tree, row, want)
			if len(want) > 0 {
				made++
			}
		}
	}
	if made < 1000 {
		t.Errorf("only %d rows make something", made)
	}
}

func TestSaidTwice(t *testing.T) {
	v := impl.Vote{Phase: impl.PhTwo, View: 3, Block: 4, By: 5}
	other := impl.Vote{Phase: impl.PhTwo, View: 3, Block: 6, By: 5}
	holdSaidTwice(t, nil, false)
	holdSaidTwice(t, []impl.Vote{}, false)
	holdSaidTwice(t, []impl.Vote{v}, false)
	holdSaidTwice(t, []impl.Vote{{}}, false)
	holdSaidTwice(t, []impl.Vote{v, v}, false)
	holdSaidTwice(t, []impl.Vote{v, v, v, v}, false)
	holdSaidTwice(t, []impl.Vote{v, other}, true)
	holdSaidTwice(t, []impl.Vote{other, v}, true)
	holdSaidTwice(t, []impl.Vote{v, v, other}, true)
	holdSaidTwice(t, []impl.Vote{v, other, v}, true)
	holdSaidTwice(t, []impl.Vote{v, {}, {Phase: 1}, {View: 1}, {By: 1}, {Phase: 2, View: 3, Block: 5, By: 4}, other}, true)
	// Of unlike By, Phase or View, each by itself.
	for _, turned := range []func(*impl.Vote){
		func(v *impl.Vote) { v.By++ }, func(v *impl.Vote) { v.By = -1 }, func(v *impl.Vote) { v.Phase++ }, func(v *impl.Vote) { v.Phase = impl.PhChain }, func(v *impl.Vote) { v.View++ }, func(v *impl.Vote) { v.View = math.MaxInt },
	} {
		unlike, same := other, v
		turned(&unlike)
		turned(&same)
		holdSaidTwice(t, []impl.Vote{v, unlike}, false)
		holdSaidTwice(t, []impl.Vote{unlike, v}, false)
		holdSaidTwice(t, []impl.Vote{v, same}, false)
		holdSaidTwice(t, []impl.Vote{v, unlike, other}, true)
	}
	// Whether they are right votes is not asked: a Block of 0 is a Block.
	for _, block := range []int{math.MinInt, -1, 0, 1, math.MaxInt} {
		holdSaidTwice(t, []impl.Vote{{Phase: -1, View: -1, Block: block, By: -1}, {Phase: -1, View: -1, Block: 7, By: -1}}, true)
		holdSaidTwice(t, []impl.Vote{{Block: 7}, {Block: block}}, true)
		holdSaidTwice(t, []impl.Vote{{Block: block}, {Block: block}}, false)
	}
}

func TestSaidTwiceByTheWords(t *testing.T) {
	twice, once, seed := 0, 0, uint32(3)
	hold := func(votes []impl.Vote) {
		want := plainSaidTwice(votes)
		holdSaidTwice(t, votes, want)
		if want {
			twice++
		} else {
			once++
		}
	}
	for _, votes := range someVoteLists() {
		hold(votes)
	}
	for range 20000 {
		var votes []impl.Vote
		for range seed >> 24 % 7 {
			seed = seed*1664525 + 1013904223
			votes = append(votes, impl.Vote{Phase: int(seed >> 9 % 3), View: int(seed >> 13 % 2), Block: int(seed >> 17 % 3), By: int(seed >> 21 % 3)})
		}
		seed = seed*1664525 + 1013904223
		hold(votes)
	}
	if twice < 1000 || once < 1000 {
		t.Errorf("only %d lists say something twice, and %d not", twice, once)
	}
	// Long lists are gone through, too.
	var many []impl.Vote
	for i := range 200000 {
		many = append(many, impl.Vote{Phase: 1, View: i, Block: 1, By: i % 7})
	}
	start := time.Now()
	holdSaidTwice(t, many, false)
	holdSaidTwice(t, append(many, impl.Vote{Phase: 1, View: 0, Block: 2}), true)
	if spent := time.Since(start); spent > 20*time.Second {
		t.Errorf("SaidTwice takes %v", spent)
	}
}

// roomyPeer is a copy of a replica with spare room of known contents behind each of its lists.
func roomyPeer(p impl.Peer) impl.Peer {
	row, early := append(slices.Clone(p.Row), -7, -7), append(slices.Clone(p.Early), -7)
	_, cells := withRoom(p.Cells)
	undos := append(slices.Clone(p.Undos), had("room", -7))
	_, votes := roomyVotes(p.Votes)
	news := append(slices.Clone(p.News), impl.Letter{Kind: -7})
	p.Row, p.Cells, p.Early, p.Undos, p.Votes, p.News = row[:len(p.Row)], cells, early[:len(p.Early)], undos[:len(p.Undos)], votes, news[:len(p.News)]
	return p
}

// wholePeer tells a replica with what stands in the spare room behind its lists.
func wholePeer(p impl.Peer) impl.Peer {
	p.Row, p.Early, p.Cells = slices.Clone(p.Row[:cap(p.Row)]), slices.Clone(p.Early[:cap(p.Early)]), slices.Clone(p.Cells[:cap(p.Cells)])
	p.Undos, p.Votes, p.News = slices.Clone(p.Undos[:cap(p.Undos)]), slices.Clone(p.Votes[:cap(p.Votes)]), slices.Clone(p.News[:cap(p.News)])
	return p
}

// soilPeer writes over all that an answer has, its spare room too.
func soilPeer(p impl.Peer) {
	soilNumbers(p.Row)
	soilNumbers(p.Early)
	soil(p.Cells)
	for i := range p.Undos[:cap(p.Undos)] {
		p.Undos[:cap(p.Undos)][i] = had("soil", -9)
	}
	for i := range p.Votes[:cap(p.Votes)] {
		p.Votes[:cap(p.Votes)][i] = impl.Vote{Phase: -9}
	}
	for i := range p.News[:cap(p.News)] {
		p.News[:cap(p.News)][i] = impl.Letter{Kind: -9}
	}
}

func TestPeerArgumentsStay(t *testing.T) {
	wild := wildPeers()
	peers := append(rightPeers(letterTree(4), 4)[:90], wild[:60]...)
	peers = append(peers, wild[len(wild)-40:]...)
	for _, tree := range append(wrongTrees()[:12], letterTree(4), branches(), nil) {
		whole, front := roomyTree(tree)
		was := wholeTree(whole)
		for _, p := range peers {
			asked := roomyPeer(p)
			askedWas := wholePeer(asked)
			// What stands in the spare room is not looked at, nor told.
			holdPeer(t, front, 4, asked, plainPeerOk(tree, 4, p))
			holdFallen(t, front, asked, plainFallen(tree, p))
			holdRowCells(t, front, asked.Row, plainRowCells(tree, p.Row))
			holdSaidTwice(t, asked.Votes, plainSaidTwice(p.Votes))
			if got, want := impl.KeptText(asked), impl.KeptText(p); got != want {
				t.Fatalf("KeptText(%s) = %.100q with spare room, want %.100q", brief(p), got, want)
			}
			soilPeer(impl.Fallen(front, asked))
			soil(impl.RowCells(front, asked.Row))
			if !samePeer(wholePeer(asked), askedWas) {
				t.Fatalf("the replica is changed: %s, was %s", brief(wholePeer(asked)), brief(askedWas))
			}
		}
		if !sameTree(wholeTree(whole), was) {
			t.Fatalf("the tree is changed: %v, was %v", whole, was)
		}
	}
}

// What is written into an argument, or into another answer, later is not seen in an answer.
func TestPeerAnswersNewMemory(t *testing.T) {
	tree, p := letterTree(4), withTheRest(impl.Peer{Id: 1, View: 9, Row: []int{1, 2, 5}})
	want := plainFallen(tree, p)
	if len(want.Cells) != 2 || len(want.Row) != 3 {
		t.Fatalf("the Row makes %v", want.Cells)
	}
	_, front := roomyTree(tree)
	for _, b := range front {
		for i := range b.Cmds {
			b.Cmds[i].Key = strings.Clone(b.Cmds[i].Key)
		}
	}
	asked := roomyPeer(p)
	fell, again, cells := impl.Fallen(front, asked), impl.Fallen(front, asked), impl.RowCells(front, asked.Row)
	text := impl.KeptText(asked)
	read, ok := impl.ReadKept(text)
	keys := slices.Concat(keysOf(fell.Cells, nil), keysOf(again.Cells, nil), keysOf(cells, nil), cmdKeys(front))
	if !ownKeys(keys) {
		t.Error("keys of the answers stand in one memory, or in the tree's")
	}
	if unsafe.SliceData(fell.Row) == unsafe.SliceData(again.Row) || unsafe.SliceData(fell.Cells) == unsafe.SliceData(again.Cells) || inside(text, impl.KeptText(asked)) {
		t.Error("one memory is answered twice")
	}
	soilPeer(again)
	soilPeer(asked)
	soilTree(front)
	if !samePeer(fell, want) || !slices.Equal(cells, want.Cells) || text != plainKeptText(p) || !ok || !samePeer(read, peerNotBelow(p)) {
		t.Errorf("an answer shares memory: %v, %v, %v", fell, cells, read)
	}
	// No two lists of one answer share any.
	soilNumbers(fell.Row)
	if !slices.Equal(fell.Cells, want.Cells) || len(fell.Early)+len(fell.Undos)+len(fell.Votes)+len(fell.News) != 0 {
		t.Errorf("lists of one answer share memory: %v", fell)
	}
}

// A text that is written over later leaves what was read from it as it was.
func TestReadKeptKeepsNoText(t *testing.T) {
	p := impl.Peer{Id: 1, View: 900, Row: []int{1, 2, 300}}
	bytes := []byte(impl.KeptText(p))
	got, ok := impl.ReadKept(unsafe.String(&bytes[0], len(bytes)))
	for i := range bytes {
		bytes[i] = 'x'
	}
	if !ok || !samePeer(got, p) {
		t.Errorf("ReadKept answers what is written elsewhere later: %v, %v", got, ok)
	}
}

// The same is answered each time, also behind a text that was refused.
func TestPeersAreTheSameEachTime(t *testing.T) {
	tree, p := letterTree(4), withTheRest(impl.Peer{Id: 1, View: 9, Row: []int{1, 2, 5}})
	text := impl.KeptText(p)
	for range 100 {
		refusesKept(t, text[1:])
		refusesKept(t, sealed(t, "\x01\x09\x00"))
		holdReadKept(t, text, peerNotBelow(p), true)
		holdFallen(t, tree, p, plainFallen(tree, p))
	}
}

// The chapter 'Ways': a reader panics with a value of its own, which a deferred recover catches.
func TestTheReaderPanics(t *testing.T) {
	file, err := parser.ParseFile(token.NewFileSet(), "../impl/l09_peer.go", nil, 0)
	if err != nil {
		t.Fatal(err)
	}
	own, panics := map[string]bool{}, map[string]int{}
	ast.Inspect(file, func(n ast.Node) bool {
		if s, ok := n.(*ast.TypeSpec); ok && !s.Assign.IsValid() && s.Name.Name != "Peer" {
			own[s.Name.Name] = true
		}
		return true
	})
	ast.Inspect(file, func(n ast.Node) bool {
		if call, ok := n.(*ast.CallExpr); ok && calls(call, "panic") && own[typeOfValue(call.Args[0])] {
			panics[typeOfValue(call.Args[0])]++
		}
		return true
	})
	caught := 0
	ast.Inspect(file, func(n ast.Node) bool {
		later, ok := n.(*ast.DeferStmt)
		if !ok {
			return true
		}
		if f, ok := later.Call.Fun.(*ast.FuncLit); ok {
			ast.Inspect(f, func(n ast.Node) bool {
				if asked, ok := n.(*ast.TypeAssertExpr); ok {
					of, named := asked.Type.(*ast.Ident)
					call, from := asked.X.(*ast.CallExpr)
					if named && from && calls(call, "recover") && panics[of.Name] > 0 {
						caught++
					}
				}
				return true
			})
		}
		return true
	})
	if len(panics) == 0 || caught == 0 {
		t.Errorf("panics with a value of its own: %v; deferred recovers that catch one: %d", panics, caught)
	}
}

func calls(call *ast.CallExpr, name string) bool {
	of, ok := call.Fun.(*ast.Ident)
	return ok && of.Name == name
}

// typeOfValue is the name of the type of a value that is written out or converted.
func typeOfValue(e ast.Expr) string {
	switch x := e.(type) {
	case *ast.CompositeLit:
		if of, ok := x.Type.(*ast.Ident); ok {
			return of.Name
		}
	case *ast.CallExpr:
		if of, ok := x.Fun.(*ast.Ident); ok {
			return of.Name
		}
	}
	return ""
}
