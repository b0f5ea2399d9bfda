package tests

import (
	"go/ast"
	"go/parser"
	"go/token"
	"math"
	"slices"
	"strings"
	"testing"
	"unsafe"

	"loop.example/g00330/impl"
)

// ofView is a Qc of that View; its Phase and Signers tell it apart from others of the View.
func ofView(view int, block int, mark int) impl.Qc {
	return impl.Qc{Phase: 1 + mark%4, View: view, Block: block, Signers: mark}
}

// newsOf are LtViews of so many others to a leader, of its View, with a Qc of nothing.
func newsOf(count int, to int, view int) []impl.Letter {
	var out []impl.Letter
	for from := range count {
		out = append(out, newsTo(from, to, view, impl.Qc{}))
	}
	return out
}

// leading is who leads that View among n, and has heard and Shown nothing.
func leading(view int, n int) impl.Peer {
	return impl.Peer{Id: plainLeader(view, n), View: view}
}

// someCmds are lists that a block may have, and such as it may not have.
func someCmds() [][]impl.Cmd {
	four := []impl.Cmd{set("a", 1), add("bc", 2), take("zzz", impl.MaxNumber), set("a", 0)}
	out := [][]impl.Cmd{nil, {}, {set("q", 7)}, four[:2], four[:3], four, append(slices.Clone(four), set("b", 1)), slices.Repeat(four, 5), {{}}, make([]impl.Cmd, impl.MaxCmds), make([]impl.Cmd, impl.MaxCmds+1)}
	for i, c := range wrongCmds() {
		if i%4 == 0 {
			out = append(out, []impl.Cmd{c}, []impl.Cmd{set("a", 1), c}, append(slices.Clone(four[:3]), c))
		}
	}
	return out
}

// plainReady, plainBest, plainShows and plainShownTo are the chapter's own words, sentence by sentence.
func plainReady(p impl.Peer, n int, chain bool) bool {
	if p.Id != plainLeader(p.View, n) || p.Shown == p.View {
		return false
	}
	heard := map[int]bool{}
	for _, l := range p.News {
		if l.Kind == 4 {
			heard[l.From] = true
		}
	}
	return len(heard) >= plainQuorum(n) || p.View == 1 || chain && oneHigher(p.View, p.High.View)
}

func plainBest(p impl.Peer) impl.Qc {
	best := p.High
	for _, l := range p.News {
		if l.Qc.View > best.View {
			best = l.Qc
		}
	}
	return best
}

func plainShows(tree []impl.Block, p impl.Peer, cmds []impl.Cmd) ([]impl.Block, impl.Peer, int) {
	best := plainBest(p)
	more, k := plainPut(tree, impl.Block{Parent: best.Block, View: p.View, Cmds: cmds, Just: best})
	if k == -1 {
		return tree, p, -1
	}
	p.Shown, p.High = p.View, best
	return more, p, k
}

func plainShownTo(tree []impl.Block, p impl.Peer, k int, n int) []impl.Letter {
	var out []impl.Letter
	for to := 0; to < n && to < 7 && k >= 0 && k < len(tree); to++ {
		out = append(out, impl.Letter{Kind: 1, From: p.Id, To: to, View: tree[k].View, Block: k, Qc: tree[k].Just})
	}
	return out
}

func holdReady(t *testing.T, p impl.Peer, n int, chain bool, want bool) {
	t.Helper()
	if got := impl.Ready(p, n, chain); got != want {
		t.Fatalf("Ready(%s, %d, %v) = %v", brief(p), n, chain, got)
	}
}

// holdReadyBoth is for what holds with chain and without it.
func holdReadyBoth(t *testing.T, p impl.Peer, n int, want bool) {
	t.Helper()
	holdReady(t, p, n, false, want)
	holdReady(t, p, n, true, want)
}

func holdBest(t *testing.T, p impl.Peer, want impl.Qc) {
	t.Helper()
	if got := impl.BestQc(p); got != want {
		t.Fatalf("BestQc(%s) = %+v, want %+v", brief(p), got, want)
	}
}

func holdShows(t *testing.T, tree []impl.Block, p impl.Peer, cmds []impl.Cmd, want []impl.Block, wantPeer impl.Peer, k int) {
	t.Helper()
	got, gotPeer, at := impl.Shows(tree, p, cmds)
	if at != k || !sameTree(got, want) || !samePeer(gotPeer, wantPeer) {
		t.Fatalf("Shows(%s, %s, %s) =\n%s, %s, %d, want\n%s, %s, %d", brief(tree), brief(p), brief(cmds), brief(got), brief(gotPeer), at, brief(want), brief(wantPeer), k)
	}
}

// holdShowsNone is for what is not put: tree and replica are as they are.
func holdShowsNone(t *testing.T, tree []impl.Block, p impl.Peer, cmds ...impl.Cmd) {
	t.Helper()
	holdShows(t, tree, p, cmds, tree, p, -1)
}

func holdShownTo(t *testing.T, tree []impl.Block, p impl.Peer, k int, n int, want ...impl.Letter) {
	t.Helper()
	if got := impl.ShownTo(tree, p, k, n); !slices.Equal(got, want) {
		t.Fatalf("ShownTo(%s, %s, %d, %d) = %+v, want %+v", brief(tree), brief(p), k, n, got, want)
	}
}

// One leads four Views in a row; who does not lead is not Ready, whatever it heard.
func TestReadyLeads(t *testing.T) {
	for n := 1; n <= impl.MaxPeers; n++ {
		for view := 1; view <= 64; view++ {
			for id := -1; id <= n; id++ {
				p := impl.Peer{Id: id, View: view, High: ofView(view-1, 1, 7), News: newsOf(n, id, view)}
				leads := id == view/4%n
				holdReadyBoth(t, p, n, leads)
				p.News = newsOf(plainQuorum(n)-1, id, view)
				holdReady(t, p, n, false, leads && view == 1)
				holdReady(t, p, n, true, leads)
			}
		}
		for _, view := range []int{impl.MaxView - 1, impl.MaxView, impl.MaxView + 1} {
			p := leading(view, n)
			p.News = newsOf(n, p.Id, view)
			holdReadyBoth(t, p, n, true)
			p.Id++
			holdReadyBoth(t, p, n, false)
		}
	}
	// By hand: of four, 0 leads the Views 1 to 3, and 1 those from 4 to 7.
	holdReadyBoth(t, impl.PeerNew(0), 4, true)
	for id := 1; id < 4; id++ {
		holdReadyBoth(t, impl.PeerNew(id), 4, false)
	}
	for _, c := range [][2]int{{1, 0}, {2, 0}, {3, 0}, {4, 1}, {5, 1}, {6, 1}, {7, 1}, {8, 2}, {12, 3}, {15, 3}, {16, 0}} {
		view, id := c[0], c[1]
		for other := range 4 {
			holdReadyBoth(t, impl.Peer{Id: other, View: view, News: newsOf(3, other, view)}, 4, other == id)
		}
	}
}

// What it has Shown is asked of its own View alone: below it, at it, above it.
func TestReadyShown(t *testing.T) {
	for n := 1; n <= impl.MaxPeers; n++ {
		for _, view := range []int{1, 2, 3, 4, 5, 9, 30, impl.MaxView} {
			p := leading(view, n)
			p.High, p.News = ofView(view-1, 1, 7), newsOf(n, p.Id, view)
			for _, shown := range append(fieldNumbers(), view-2, view-1, view, view+1, view+2) {
				p.Shown = shown
				holdReadyBoth(t, p, n, shown != view)
			}
			// Without News, too.
			p.News = nil
			for _, shown := range []int{0, view - 1, view, view + 1} {
				p.Shown = shown
				holdReady(t, p, n, true, shown != view)
				holdReady(t, p, n, false, shown != view && view == 1)
			}
		}
	}
}

// One less than enough are not enough; just as many are, and more.
func TestReadyHeardOfEnough(t *testing.T) {
	for n, enough := range []int{1: 1, 2: 2, 3: 3, 4: 3, 5: 4, 6: 5, 7: 5} {
		if n == 0 {
			continue
		}
		for _, view := range []int{2, 3, 4, 17, impl.MaxView} {
			p := leading(view, n)
			for count := 0; count <= n; count++ {
				p.News = newsOf(count, p.Id, view)
				holdReadyBoth(t, p, n, count >= enough)
				// Whoever they are.
				for i := range p.News {
					p.News[i].From = n - 1 - i
				}
				holdReadyBoth(t, p, n, count >= enough)
			}
			// View 1 needs none.
			first := leading(1, n)
			for count := 0; count <= n; count++ {
				first.News = newsOf(count, first.Id, 1)
				holdReadyBoth(t, first, n, true)
			}
		}
	}
}

// Who wrote is counted: one that stands there twice is one, and a letter of another Kind is no LtView.
func TestReadyCountsWhoWrote(t *testing.T) {
	p := leading(9, 4)
	for _, c := range []struct {
		from []int
		want bool
	}{
		{nil, false}, {[]int{0, 0, 0}, false}, {[]int{3, 3, 3, 3, 3}, false}, {[]int{0, 1, 0}, false}, {[]int{0, 1, 1, 0}, false}, {[]int{2, 0, 2, 0, 2}, false},
		{[]int{0, 1, 2}, true}, {[]int{2, 0, 3}, true}, {[]int{0, 0, 1, 2}, true}, {[]int{3, 1, 3, 1, 3, 0}, true}, {[]int{0, 1, 2, 3}, true}, {[]int{0, 0, 1, 1, 2, 2, 3, 3}, true},
	} {
		p.News = nil
		for _, from := range c.from {
			p.News = append(p.News, newsTo(from, 2, 9, impl.Qc{}))
		}
		holdReadyBoth(t, p, 4, c.want)
		// What they tell of is not asked.
		for i := range p.News {
			p.News[i].Qc = ofView(i, i, i)
		}
		holdReadyBoth(t, p, 4, c.want)
	}
	for _, kind := range []int{math.MinInt, -1, 0, impl.LtBlock, impl.LtVote, impl.LtQc, 5, math.MaxInt} {
		p.News = newsOf(4, 2, 9)
		p.News[1].Kind = kind
		holdReadyBoth(t, p, 4, true)
		p.News[3].Kind = kind
		holdReadyBoth(t, p, 4, false)
	}
}

// With chain, High tells of enough for the View just below; without it that is nothing.
func TestReadyAlongAChain(t *testing.T) {
	for n := 1; n <= impl.MaxPeers; n++ {
		for _, view := range []int{2, 3, 4, 5, 8, 29, impl.MaxView - 1, impl.MaxView} {
			p := leading(view, n)
			for _, high := range []int{math.MinInt, -1, 0, view - 3, view - 2, view - 1, view, view + 1, view + 2, math.MaxInt} {
				p.High = ofView(high, 3, 7)
				holdReady(t, p, n, false, false)
				holdReady(t, p, n, true, high == view-1)
				// Neither Lock nor what News tell of counts.
				p.Lock = ofView(view-1, 3, 7)
				p.News = []impl.Letter{newsTo(0, p.Id, view, ofView(view-1, 3, 7))}[:min(1, plainQuorum(n)-1)]
				holdReady(t, p, n, false, false)
				holdReady(t, p, n, true, high == view-1)
				// Enough News do without it.
				p.News = newsOf(plainQuorum(n), p.Id, view)
				holdReadyBoth(t, p, n, true)
				p.Lock, p.News = impl.Qc{}, nil
			}
		}
		// View 1 is begun with nothing.
		for _, high := range []int{math.MinInt, -1, 0, 1, 2, math.MaxInt} {
			p := impl.PeerNew(0)
			p.High = ofView(high, 3, 7)
			holdReadyBoth(t, p, n, true)
			p.Shown = 1
			holdReadyBoth(t, p, n, false)
		}
	}
	// Just one below is no matter of wrap-round.
	least, most := impl.Peer{View: math.MinInt, High: ofView(math.MaxInt, 1, 7)}, impl.Peer{View: math.MaxInt, High: ofView(math.MinInt, 1, 7)}
	most.Id = plainLeader(math.MaxInt, 4)
	holdReadyBoth(t, least, 4, false)
	holdReadyBoth(t, most, 4, false)
	least.View, most.High.View = math.MinInt+1, math.MaxInt-1
	least.High.View = math.MinInt
	holdReady(t, least, 4, true, true)
	holdReady(t, most, 4, true, true)
}

// Numbers of replicas and of Views that are none are taken as chapter 7 takes them.
func TestReadyAmongAnyNumber(t *testing.T) {
	for _, n := range somePeers() {
		for _, view := range append(fieldNumbers(), -3, 9, 27, 28, 29) {
			for _, id := range []int{math.MinInt, -1, 0, 1, 6, plainLeader(view, n), math.MaxInt} {
				for _, shown := range []int{math.MinInt, 0, view, math.MaxInt} {
					for _, heard := range []int{0, 1, 3, 6, 7, 9, 44, 65} {
						p := impl.Peer{Id: id, View: view, Shown: shown, News: newsOf(heard, id, view)}
						for _, high := range []int{0, view - 1, view} {
							p.High.View = high
							holdReady(t, p, n, false, plainReady(p, n, false))
							holdReady(t, p, n, true, plainReady(p, n, true))
						}
					}
				}
			}
		}
	}
	// By hand: below 1 there is one leader, 0, and of nobody nobody is enough.
	for _, n := range []int{0, -1, math.MinInt} {
		holdReadyBoth(t, impl.Peer{View: 77}, n, true)
		holdReadyBoth(t, impl.Peer{View: 77, Shown: 77}, n, false)
		holdReadyBoth(t, impl.Peer{Id: 1, View: 77}, n, false)
		holdReadyBoth(t, impl.PeerNew(0), n, true)
		holdReadyBoth(t, impl.Peer{}, n, false)
	}
	// Above MaxPeers as many are needed as Quorum says.
	p := leading(40, 1000)
	p.News = newsOf(666, p.Id, 40)
	holdReadyBoth(t, p, 1000, false)
	p.News = newsOf(667, p.Id, 40)
	holdReadyBoth(t, p, 1000, true)
	holdReadyBoth(t, impl.Peer{View: 3, News: newsOf(70, 0, 3)}, math.MaxInt, false)
}

func TestReadyByTheWords(t *testing.T) {
	draw := drawn(31)
	ready, chained, not := 0, 0, 0
	for n := 1; n <= impl.MaxPeers; n++ {
		for range 20000 {
			view := 1 + draw(40)
			p := impl.Peer{Id: plainLeader(view, n), View: view, Shown: draw(view + 2), High: ofView(max(0, view-draw(4)), draw(9), draw(128))}
			if draw(6) == 0 {
				p.Id = draw(n + 1)
			}
			for range draw(n + 3) {
				l := newsTo(draw(n), p.Id, view, ofView(draw(view), draw(9), draw(128)))
				if draw(20) == 0 {
					l.Kind = draw(6)
				}
				p.News = append(p.News, l)
			}
			plain, along := plainReady(p, n, false), plainReady(p, n, true)
			holdReady(t, p, n, false, plain)
			holdReady(t, p, n, true, along)
			switch {
			case plain:
				ready++
			case along:
				chained++
			default:
				not++
			}
		}
	}
	if ready < 1000 || chained < 1000 || not < 1000 {
		t.Errorf("only %d are Ready, %d with chain, and %d are not", ready, chained, not)
	}
	for _, p := range wildPeers() {
		for _, n := range somePeers() {
			holdReady(t, p, n, false, plainReady(p, n, false))
			holdReady(t, p, n, true, plainReady(p, n, true))
		}
	}
}

func TestBestQc(t *testing.T) {
	high := ofView(5, 2, 100)
	tell := func(views ...int) impl.Peer {
		p := impl.Peer{Id: 1, View: 9, High: high, Lock: ofView(800, 7, 7)}
		for i, view := range views {
			p.News = append(p.News, newsTo(i, 1, 9, ofView(view, i, i)))
		}
		return p
	}
	for _, c := range []struct {
		what  string
		views []int
		want  impl.Qc
	}{
		{"no News", nil, high},
		{"below High", []int{4}, high},
		{"all below", []int{4, 0, 1, -7, math.MinInt}, high},
		{"at High", []int{5}, high},
		{"several at High", []int{5, 5, 5}, high},
		{"above", []int{6}, ofView(6, 0, 0)},
		{"the highest is first", []int{8, 7, 6, 5}, ofView(8, 0, 0)},
		{"the highest is last", []int{4, 5, 6, 7, 8}, ofView(8, 4, 4)},
		{"the highest is between", []int{6, 4, 9, 5, 8}, ofView(9, 2, 2)},
		{"two of one View: the first of them", []int{6, 6}, ofView(6, 0, 0)},
		{"two of one View behind a lesser one", []int{6, 7, 7}, ofView(7, 1, 1)},
		{"two of one View, a lesser one between", []int{5, 8, 7, 8}, ofView(8, 1, 1)},
		{"two of one View ahead of a higher one", []int{6, 6, 7}, ofView(7, 2, 2)},
		{"the greatest and the least", []int{math.MinInt, math.MaxInt, impl.MaxView, math.MaxInt}, ofView(math.MaxInt, 1, 1)},
	} {
		t.Run(c.what, func(t *testing.T) { holdBest(t, tell(c.views...), c.want) })
	}
	holdBest(t, impl.PeerNew(3), impl.Qc{})
	holdBest(t, impl.Peer{}, impl.Qc{})
	// A High of nothing, and one below that.
	for _, view := range []int{0, -1, math.MinInt} {
		p := tell(0, 0)
		p.High = ofView(view, 6, 6)
		want := p.High
		if view < 0 {
			want = ofView(0, 0, 0)
		}
		holdBest(t, p, want)
	}
	// The Qc of each is heard, of whatever Kind and View the letter is, and whoever wrote it.
	for _, l := range wildLetters() {
		for _, view := range []int{math.MinInt, l.Qc.View - 1, l.Qc.View, l.Qc.View + 1, math.MaxInt} {
			p := impl.Peer{High: ofView(view, 77, 99), News: []impl.Letter{l}}
			want := p.High
			if l.Qc.View > view {
				want = l.Qc
			}
			holdBest(t, p, want)
		}
	}
}

func TestBestQcByTheWords(t *testing.T) {
	draw := drawn(37)
	kept, told, ties := 0, 0, 0
	for range 20000 {
		p := impl.Peer{High: ofView(draw(6), draw(9), 100+draw(9))}
		for range draw(8) {
			p.News = append(p.News, newsTo(draw(7), 1, 9, ofView(draw(9), draw(9), draw(99))))
		}
		want := plainBest(p)
		holdBest(t, p, want)
		if want == p.High {
			kept++
		} else {
			told++
		}
		for _, l := range p.News {
			if l.Qc != want && l.Qc.View == want.View {
				ties++
				break
			}
		}
	}
	if kept < 1000 || told < 1000 || ties < 1000 {
		t.Errorf("only %d Highs are best, %d of News, %d are as high as others", kept, told, ties)
	}
	for _, p := range wildPeers() {
		holdBest(t, p, plainBest(p))
	}
}

// A block that is put: its number, Parent, View, Cmds and Just, and the replica behind it.
func TestShows(t *testing.T) {
	const n = 4
	tree := askTree(n)
	low, high := signedQc(tree, n, impl.PhOne, 4), signedQc(tree, n, impl.PhOne, 8)
	cmds := []impl.Cmd{set("a", 1), take("b", 2)}
	for _, c := range []struct {
		what string
		high impl.Qc
		news []impl.Qc
		best impl.Qc
	}{
		{"High alone", high, nil, high},
		{"on the first block", impl.Qc{}, nil, impl.Qc{}},
		{"News of nothing", high, []impl.Qc{{}, {}, {}}, high},
		{"News below High", high, []impl.Qc{low, {}}, high},
		{"News above High", low, []impl.Qc{{}, high, low}, high},
		{"of all nothing", impl.Qc{}, []impl.Qc{{}, {}, {}}, impl.Qc{}},
		{"two blocks of one View: the first one", low, []impl.Qc{signedQc(tree, n, impl.PhTwo, 9), high}, signedQc(tree, n, impl.PhTwo, 9)},
		{"one Block, of two Phases: the first one", low, []impl.Qc{signedQc(tree, n, impl.PhChain, 8), high}, signedQc(tree, n, impl.PhChain, 8)},
	} {
		for _, cmds := range [][]impl.Cmd{nil, cmds} {
			for _, view := range []int{9, 10, impl.MaxView - 2} {
				p := inView(plainLeader(view, n), view)
				p.High, p.Lock, p.News = c.high, low, nil
				for i, q := range c.news {
					p.News = append(p.News, newsTo(i, p.Id, view, q))
				}
				wantPeer := p
				wantPeer.Shown, wantPeer.High = view, c.best
				want := append(copyTree(tree), impl.Block{Parent: c.best.Block, View: view, Cmds: cmds, Just: c.best})
				t.Run(c.what, func(t *testing.T) {
					holdShows(t, tree, p, cmds, want, wantPeer, len(tree))
					if !plainTreeOk(want) {
						t.Fatal("the tree is not right")
					}
				})
			}
		}
	}
	// By hand, from the beginning on.
	more, p, k := impl.Shows(impl.TreeNew(), impl.PeerNew(0), cmds)
	want := []impl.Block{{Parent: -1}, {View: 1, Cmds: cmds}}
	if k != 1 || !sameTree(more, want) || !samePeer(p, impl.Peer{View: 1, Shown: 1}) {
		t.Errorf("the first block that is shown: %v, %+v, %d", more, p, k)
	}
	p = impl.Entered(p, 2)
	p.High = impl.Qc{Phase: impl.PhChain, View: 1, Block: 1, Signers: 7}
	want = append(want, impl.Block{Parent: 1, View: 2, Just: p.High})
	holdShows(t, more, p, nil, want, impl.Peer{View: 2, High: p.High, Shown: 2}, 2)
}

// Whether it leads, is Ready, or has Shown that View is not asked, nor who n are.
func TestShowsAsksNoMore(t *testing.T) {
	tree := letterTree(4)
	for _, id := range fieldNumbers() {
		for _, shown := range []int{math.MinInt, 0, 7, 8, 9, math.MaxInt} {
			p := impl.Peer{Id: id, View: 8, Shown: shown, High: impl.Qc{Phase: id, View: 7, Block: 5, Signers: -id}, Lock: ofView(math.MaxInt, -3, -3)}
			want := p
			want.Shown = 8
			holdShows(t, tree, p, nil, append(copyTree(tree), impl.Block{Parent: 5, View: 8, Just: p.High}), want, len(tree))
		}
	}
}

// A block that is there already is shown again: its place, and the tree as it is.
func TestShowsABlockThatIsThere(t *testing.T) {
	for _, tree := range [][]impl.Block{askTree(4), chainTree(4), letterTree(7), rowWith(impl.MaxBlocks), bushWith(impl.MaxBlocks), overTree(4), wrongTrees()[4], wrongTrees()[len(wrongTrees())-1]} {
		for k := 1; k < len(tree); k++ {
			p := inView(2, tree[k].View)
			p.High, p.Shown = tree[k].Just, -4
			want := p
			want.Shown = tree[k].View
			holdShows(t, tree, p, tree[k].Cmds, tree, want, k)
			// One whose News tell of its Just.
			p.High = ofView(tree[k].Just.View-1, 99, 3)
			p.News = []impl.Letter{newsTo(0, 2, p.View, tree[k].Just)}
			want.High, want.News = tree[k].Just, p.News
			holdShows(t, tree, p, tree[k].Cmds, tree, want, k)
		}
	}
	// Twice the same: the second time it is there.
	tree, p, k := impl.Shows(impl.TreeNew(), impl.PeerNew(0), []impl.Cmd{set("a", 1)})
	if k != 1 {
		t.Fatalf("it is put at %d", k)
	}
	holdShows(t, tree, p, []impl.Cmd{set("a", 1)}, tree, p, 1)
	// One that is there, but is not right, has its place, too.
	wrong := []impl.Block{first(), {View: 3, Cmds: wrongCmds()[:9]}}
	want := impl.Peer{Id: 1, View: 3, Shown: 3}
	holdShows(t, wrong, impl.Peer{Id: 1, View: 3}, wrongCmds()[:9], wrong, want, 1)
}

// Nothing is put, and nothing is Shown, where there is no room, no such Parent, no View above it, or wrong Cmds.
func TestShowsNothing(t *testing.T) {
	for _, build := range []func(int) []impl.Block{rowWith, bushWith} {
		for _, size := range []int{impl.MaxBlocks - 1, impl.MaxBlocks, impl.MaxBlocks + 1, impl.MaxBlocks + 9} {
			tree := build(size)
			p := inView(0, 500)
			p.High = on(tree, 7, 0).Just
			if size >= impl.MaxBlocks {
				holdShowsNone(t, tree, p)
				holdShowsNone(t, tree, p, set("a", 1))
				continue
			}
			want := p
			want.Shown = 500
			holdShows(t, tree, p, nil, append(copyTree(tree), on(tree, 7, 500)), want, size)
		}
	}
	tree := chainTree(4)
	just := func(k int) impl.Qc { return signedQc(tree, 4, impl.PhChain, k) }
	for k := range tree {
		for _, view := range []int{math.MinInt, -1, 0, 1, tree[k].View - 1, tree[k].View, tree[k].View + 1, impl.MaxView - 1, impl.MaxView, impl.MaxView + 1, math.MaxInt} {
			p := inView(1, view)
			p.High, p.News = impl.Qc{View: -1}, []impl.Letter{newsTo(0, 1, view, just(k))}
			if view <= tree[k].View || view > impl.MaxView {
				holdShowsNone(t, tree, p, set("z", k))
				continue
			}
			want := p
			want.Shown, want.High = view, just(k)
			holdShows(t, tree, p, []impl.Cmd{set("z", k)}, append(copyTree(tree), impl.Block{Parent: k, View: view, Cmds: []impl.Cmd{set("z", k)}, Just: just(k)}), want, len(tree))
		}
	}
	p := inView(1, 12)
	for _, turn := range []func(*impl.Qc){
		func(q *impl.Qc) { q.Block = -1 }, func(q *impl.Qc) { q.Block = math.MinInt }, func(q *impl.Qc) { q.Block = len(tree) }, func(q *impl.Qc) { q.Block = math.MaxInt }, func(q *impl.Qc) { q.Block-- },
		func(q *impl.Qc) { q.View-- }, func(q *impl.Qc) { q.View++ }, func(q *impl.Qc) { q.View = 0 }, func(q *impl.Qc) { q.View = math.MaxInt }, func(q *impl.Qc) { q.View = math.MinInt },
	} {
		p.High = just(10)
		turn(&p.High)
		p.News = nil
		holdShowsNone(t, tree, p, set("z", 1))
		// A lower one that is right does not stand in for it.
		if p.High.View > 2 {
			p.News = []impl.Letter{newsTo(0, 1, 12, just(2))}
			holdShowsNone(t, tree, p, set("z", 1))
		}
	}
	p = inView(1, 12)
	p.High = just(10)
	shown := p
	shown.Shown = 12
	for _, cmds := range someCmds() {
		right := len(cmds) <= impl.MaxCmds
		for _, c := range cmds {
			right = right && impl.CmdOk(c)
		}
		if !right {
			holdShowsNone(t, tree, p, cmds...)
			continue
		}
		holdShows(t, tree, p, cmds, append(copyTree(tree), impl.Block{Parent: 10, View: 12, Cmds: cmds, Just: p.High}), shown, len(tree))
	}
	for _, c := range wrongCmds() {
		holdShowsNone(t, tree, p, c)
	}
	for _, tree := range [][]impl.Block{nil, {}} {
		for _, p := range append(chainPeers(), impl.PeerNew(0)) {
			holdShowsNone(t, tree, p)
			holdShowsNone(t, tree, p, set("a", 1))
		}
	}
}

// showers are replicas of all kinds that may stand in that tree: with Qcs of its blocks, and with such as are of none.
func showers(tree []impl.Block, draw func(int) int) []impl.Peer {
	wild := fieldNumbers()
	var out []impl.Peer
	qc := func() impl.Qc {
		if len(tree) == 0 || draw(12) == 0 {
			return impl.Qc{Phase: draw(5), View: wild[draw(len(wild))], Block: wild[draw(len(wild))], Signers: draw(128)}
		}
		k := draw(len(tree))
		q := impl.Qc{Phase: draw(5), View: tree[k].View, Block: k, Signers: draw(128)}
		switch draw(12) {
		case 0:
			q.View = wild[draw(len(wild))]
		case 1:
			q.Block = draw(len(tree)+4) - 2
		case 2:
			q = tree[k].Just
		}
		return q
	}
	for range 40 {
		p := withTheRest(impl.Peer{Id: draw(7), View: wild[draw(len(wild))], High: qc()})
		if len(tree) > 0 && draw(6) > 0 {
			p.View = tree[draw(len(tree))].View + draw(3)
		}
		p.News = nil
		for range draw(4) {
			p.News = append(p.News, newsTo(draw(7), p.Id, p.View, qc()))
		}
		p.Shown = p.View - draw(3) + 1
		out = append(out, p)
	}
	return out
}

func TestShowsByTheWords(t *testing.T) {
	draw := drawn(43)
	put, there, none := 0, 0, 0
	trees := [][]impl.Block{askTree(4), chainTree(7), letterTree(4), hollowTree(), overTree(4), branches(), accountTree(), wrongCmdsTree(), lineOf(0, 1, 2, 3, 4), rowWith(impl.MaxBlocks - 1), rowWith(impl.MaxBlocks), impl.TreeNew(), nil}
	trees = append(trees, wrongTrees()...)
	trees = append(trees, brokenTrees()[:12]...)
	trees = append(trees, wildTrees()[200:212]...)
	trees = append(trees, justTrees()[:12]...)
	for _, tree := range trees {
		lists := someCmds()
		for _, b := range tree {
			lists = append(lists, b.Cmds)
		}
		for _, p := range showers(tree, draw) {
			for range 4 {
				cmds := lists[draw(6)]
				if draw(4) == 0 {
					cmds = lists[draw(len(lists))]
				}
				if len(tree) > 0 && draw(8) == 0 {
					b := tree[draw(len(tree))]
					p.High, p.View, cmds = b.Just, b.View, b.Cmds
				}
				want, wantPeer, k := plainShows(tree, p, cmds)
				holdShows(t, tree, p, cmds, want, wantPeer, k)
				switch {
				case k == -1:
					none++
				case k == len(tree):
					put++
				default:
					there++
				}
			}
		}
	}
	if put < 200 || there < 200 || none < 200 {
		t.Errorf("only %d are put, %d are there, %d are neither", put, there, none)
	}
}

func TestShowsWrongInputs(t *testing.T) {
	peers := append(wildPeers()[:60], wildPeers()[len(wildPeers())-1], impl.Peer{})
	lists := someCmds()
	for i, tree := range [][]impl.Block{nil, {}, wrongTrees()[3], wrongTrees()[9], brokenTrees()[5], justTrees()[3], {{}, {}, {}}, {{View: 4}, {Parent: 9, View: 4, Just: impl.Qc{View: 4}}}, wildBlocks()[:20], rowWith(impl.MaxBlocks + 7)} {
		for j, p := range peers {
			for _, cmds := range [][]impl.Cmd{nil, lists[(i+j)%len(lists)], lists[(i*5+j*3)%len(lists)]} {
				want, wantPeer, k := plainShows(tree, p, cmds)
				holdShows(t, tree, p, cmds, want, wantPeer, k)
			}
		}
	}
}

// To each one, in order: its Kind, From, To, View, Block, and the block's Just.
func TestShownTo(t *testing.T) {
	tree := askTree(4)
	// By hand.
	p := impl.PeerNew(1)
	p.View = 4
	holdShownTo(t, tree, p, 4, 3,
		impl.Letter{Kind: impl.LtBlock, From: 1, To: 0, View: 4, Block: 4, Qc: tree[4].Just},
		impl.Letter{Kind: impl.LtBlock, From: 1, To: 1, View: 4, Block: 4, Qc: tree[4].Just},
		impl.Letter{Kind: impl.LtBlock, From: 1, To: 2, View: 4, Block: 4, Qc: tree[4].Just})
	for n, many := range map[int]int{math.MinInt: 0, -1: 0, 0: 0, 1: 1, 2: 2, 6: 6, 7: 7, 8: 7, 9: 7, 1000: 7, math.MaxInt: 7} {
		got := impl.ShownTo(tree, p, 8, n)
		if len(got) != many {
			t.Fatalf("among %d it is shown to %d", n, len(got))
		}
		for to, l := range got {
			if l != (impl.Letter{Kind: impl.LtBlock, From: 1, To: to, View: 8, Block: 8, Qc: tree[8].Just}) {
				t.Errorf("among %d the letter at %d is %+v", n, to, l)
			}
		}
	}
	// Places that are none, and those at the edges.
	for _, k := range []int{math.MinInt, -2, -1, len(tree), len(tree) + 1, math.MaxInt} {
		for _, n := range somePeers() {
			holdShownTo(t, tree, p, k, n)
			holdShownTo(t, nil, p, k, n)
		}
	}
	holdShownTo(t, tree, p, len(tree)-1, 1, impl.Letter{Kind: impl.LtBlock, From: 1, View: impl.MaxView, Block: len(tree) - 1, Qc: tree[len(tree)-1].Just})
	holdShownTo(t, tree, p, 0, 1, impl.Letter{Kind: impl.LtBlock, From: 1})
	holdShownTo(t, nil, p, 0, 4)
}

// The block tells its View and its Just; the replica only who it is.
func TestShownToByTheWords(t *testing.T) {
	peers := append(chainPeers(), wildPeers()[:40]...)
	for _, tree := range append(wrongTrees(), askTree(4), chainTree(7), hollowTree(), overTree(4), wildBlocks(), justTrees()[5], impl.TreeNew(), nil) {
		for i, n := range somePeers() {
			for j, p := range peers {
				k := j%(len(tree)+4) - 2
				holdShownTo(t, tree, p, k, n, plainShownTo(tree, p, k, n)...)
				k = fieldNumbers()[(i*3+j)%len(fieldNumbers())]
				holdShownTo(t, tree, p, k, n, plainShownTo(tree, p, k, n)...)
			}
		}
	}
}

// What a leader shows is a right letter to each, which those to whom it comes hear.
func TestWhatIsShownIsHeard(t *testing.T) {
	for n := 1; n <= impl.MaxPeers; n++ {
		for _, way := range []struct {
			tree []impl.Block
			hear func([]impl.Block, int, impl.Peer, impl.Letter) (impl.Peer, []impl.Letter)
		}{{askTree(n), impl.AskHear}, {chainTree(n), impl.ChainHear}} {
			for k := 1; k < len(way.tree); k++ {
				letters := impl.ShownTo(way.tree, leading(way.tree[k].View, n), k, n)
				if len(letters) != n {
					t.Fatalf("among %d it is shown to %d", n, len(letters))
				}
				for to, l := range letters {
					if l != shownTo(way.tree, n, k, to) || !plainLetterOk(way.tree, n, l) {
						t.Fatalf("%+v is not right", l)
					}
					if heard, out := way.hear(way.tree, n, impl.PeerNew(to), l); len(out) != 1 || heard.Last.Block != k {
						t.Fatalf("%+v is not heard", l)
					}
				}
			}
		}
	}
}

// leadHall is a chainHall, or an askHall, whose leaders show what chapter 13 says.
type leadHall struct {
	chainHall
	chain bool
	shown map[[2]int]int // how many blocks one showed in a View
}

func newLeadHall(n int, liars int, chain bool, draw func(int) int) *leadHall {
	return &leadHall{chainHall: *newChainHall(n, liars, draw), chain: chain, shown: map[[2]int]int{}}
}

func (h *leadHall) hears(t *testing.T, l impl.Letter) {
	if h.chain {
		h.chainHall.hears(t, l)
	} else {
		h.askHall.hears(t, l)
	}
}

func (h *leadHall) lie(top int) {
	if h.chain {
		h.chainHall.lie(top)
	} else {
		h.askHall.lie(top)
	}
}

// leads is what one does who may be Ready; all that promise 13 says of it is held.
func (h *leadHall) leads(t *testing.T, id int) {
	t.Helper()
	p := h.peers[id]
	holdReady(t, p, h.n, h.chain, plainReady(p, h.n, h.chain))
	if !impl.Ready(p, h.n, h.chain) {
		return
	}
	cmds := []impl.Cmd{set(string([]byte{byte('a' + h.draw(3))}), h.draw(100))}[:h.draw(2)]
	tree, got, k := impl.Shows(h.tree, p, cmds)
	want, wantPeer, at := plainShows(h.tree, p, cmds)
	if k != at || !sameTree(tree, want) || !samePeer(got, wantPeer) {
		t.Fatalf("Shows = %s, %s, %d, want %s, %s, %d", brief(tree), brief(got), k, brief(want), brief(wantPeer), at)
	}
	h.tree, h.peers[id] = tree, got
	if k < 0 {
		return
	}
	fault := func(what string) {
		t.Helper()
		t.Fatalf("%s: %d shows %d, %+v\nit was %+v, is %+v", what, id, k, tree[k], p, got)
	}
	if h.shown[[2]int{id, p.View}]++; h.shown[[2]int{id, p.View}] > 1 {
		fault("two blocks in a View")
	}
	known := []impl.Qc{p.High}
	for _, l := range p.News {
		known = append(known, l.Qc)
	}
	for _, q := range known {
		if q.View > tree[k].Just.View {
			fault("it knows a higher Qc")
		}
	}
	switch {
	case !slices.Contains(known, tree[k].Just) || tree[k].Parent != tree[k].Just.Block || got.High != tree[k].Just:
		fault("it does not stand on the highest Qc's block")
	case plainLeader(tree[k].View, h.n) != id || tree[k].View != p.View || got.View != p.View || got.Shown != p.View:
		fault("it is not of the View that it leads")
	case impl.Ready(got, h.n, false) || impl.Ready(got, h.n, true):
		fault("it is Ready behind that")
	case !plainTreeOk(tree) || !plainSame(tree[k], impl.Block{Parent: got.High.Block, View: p.View, Cmds: cmds, Just: got.High}):
		fault("the tree is not right")
	}
	letters := impl.ShownTo(tree, got, k, h.n)
	for to, l := range letters {
		if len(letters) != h.n || l != shownTo(tree, h.n, k, to) || !plainLetterOk(tree, h.n, l) {
			fault("it is not told to each")
		}
	}
	h.pool = append(h.pool, letters...)
}

func (h *leadHall) step(t *testing.T) {
	top := 0
	for id := h.liars; id < h.n; id++ {
		h.leads(t, id)
		top = max(top, h.peers[id].View)
	}
	if h.liars > 0 && h.draw(4) == 0 {
		h.lie(top)
	}
	if len(h.pool) == 0 || h.draw(60) == 0 {
		for id := h.liars; id < h.n; id++ {
			if h.peers[id].View < top || h.draw(3) > 0 {
				h.goesOn(id)
			}
		}
		return
	}
	at := h.draw(min(len(h.pool), 3*h.n))
	l := h.pool[at]
	if h.draw(10) > 0 {
		h.pool = slices.Delete(h.pool, at, at+1)
	}
	if !h.lies(l.To) && h.draw(25) > 0 {
		h.hears(t, l)
	}
}

// Promise 13: whatever is said, in both ways, a leader shows one block in a View, on the highest Qc that it knows.
func TestALeaderShowsOneBlockInAView(t *testing.T) {
	for _, chain := range []bool{false, true} {
		blocks, views, rows := 0, 0, 0
		for seed := range uint32(80) {
			n := []int{1, 4, 4, 5, 7, 7, 2, 3}[seed%8]
			liars := (n - 1) / 3
			if seed%3 == 2 {
				liars = 0
			}
			h := newLeadHall(n, liars, chain, drawn(seed*967+1))
			for range 600 {
				h.step(t)
			}
			seen := map[int]int{}
			for key, count := range h.shown {
				if count != 1 || key[0] != plainLeader(key[1], n) {
					t.Fatalf("seed %d: %d shows %d blocks in View %d", seed, key[0], count, key[1])
				}
				seen[key[1]]++
				blocks++
			}
			for k := 1; k < len(h.tree); k++ {
				if id := plainLeader(h.tree[k].View, n); !h.lies(id) && seen[h.tree[k].View] != 1 {
					t.Fatalf("seed %d: of View %d, which %d leads, %d blocks are shown", seed, h.tree[k].View, id, seen[h.tree[k].View])
				}
			}
			for id := liars; id < n; id++ {
				views = max(views, h.peers[id].View)
				rows += len(h.peers[id].Row)
			}
		}
		if blocks < 500 || views < 40 || rows < 300 {
			t.Errorf("with chain %v: only %d blocks are shown, up to View %d, %d go through", chain, blocks, views, rows)
		}
	}
}

// When all is well, one block is shown in each View, by its leader, up to the last that has room.
func TestLeadersShowBlockByBlock(t *testing.T) {
	for _, chain := range []bool{false, true} {
		for n := 1; n <= impl.MaxPeers; n++ {
			h := newLeadHall(n, 0, chain, drawn(uint32(n)))
			for view := 1; view < impl.MaxBlocks; view++ {
				for id := range n {
					h.leads(t, id)
				}
				if len(h.tree) != view+1 || h.tree[view].View != view || h.tree[view].Parent != view-1 || len(h.pool) != n {
					t.Fatalf("with chain %v, among %d: no block is shown in View %d: %s", chain, n, view, brief(h.tree))
				}
				// Nobody shows another one.
				for id := range n {
					if impl.Ready(h.peers[id], n, chain) {
						t.Fatalf("with chain %v, among %d: %d is Ready in View %d, which has its block", chain, n, id, view)
					}
				}
				for len(h.pool) > 0 {
					l := h.pool[0]
					h.pool = h.pool[1:]
					h.hears(t, l)
				}
			}
			// There is no room any more: the leader is Ready, shows nothing, and stays as it is.
			for id, p := range h.peers {
				if impl.Ready(p, n, chain) != (id == plainLeader(impl.MaxBlocks, n)) {
					t.Fatalf("with chain %v, among %d: %d is Ready or not: %+v", chain, n, id, p)
				}
				if id == plainLeader(impl.MaxBlocks, n) {
					holdShowsNone(t, h.tree, p, set("a", 1))
				}
			}
		}
	}
}

// leadAnswer is what the functions of the chapter that answer a list answered.
type leadAnswer struct {
	tree []impl.Block
	p    impl.Peer
	out  []impl.Letter
}

// leadAnswers are of blocks that are put, that are there, and that are refused.
func leadAnswers(tree []impl.Block, p impl.Peer, cmds []impl.Cmd) []leadAnswer {
	var out []leadAnswer
	if len(tree) == 0 {
		return out
	}
	for _, k := range []int{0, len(tree) / 2, len(tree) - 1} {
		for _, view := range []int{tree[k].View, tree[k].View + 1, 500} {
			q := p
			q.View, q.High = view, tree[k].Just
			for _, c := range [][]impl.Cmd{cmds, tree[k].Cmds} {
				more, shown, _ := impl.Shows(tree, q, c)
				out = append(out, leadAnswer{more, shown, impl.ShownTo(tree, q, k, 4)})
			}
		}
	}
	more, shown, _ := impl.Shows(tree, p, cmds)
	return append(out, leadAnswer{more, shown, impl.ShownTo(tree, p, -1, 4)})
}

func TestLeadArgumentsStay(t *testing.T) {
	draw, lists := drawn(47), someCmds()[:9]
	for _, tree := range append(wrongTrees()[:6], chainTree(4), askTree(4), rowWith(impl.MaxBlocks), nil) {
		for _, p := range append(chainPeers(), showers(tree, draw)[:20]...) {
			for _, cmds := range lists {
				whole, front := roomyTree(tree)
				was := wholeTree(whole)
				asked := ownMemory(p)
				askedWas := wholePeer(asked)
				given := []impl.Block{roomyBlock(impl.Block{Cmds: cmds})}
				givenWas := wholeTree(given)
				// What stands in the spare room is not looked at, nor told.
				want, wantPeer, k := plainShows(tree, p, cmds)
				holdShows(t, front, asked, given[0].Cmds, want, wantPeer, k)
				holdReady(t, asked, 4, true, plainReady(p, 4, true))
				holdBest(t, asked, plainBest(p))
				for _, k := range []int{-1, 0, len(tree) - 1, len(tree), len(tree) + 1} {
					holdShownTo(t, front, asked, k, 4, plainShownTo(tree, p, k, 4)...)
				}
				for _, got := range leadAnswers(front, asked, given[0].Cmds) {
					soilTree(got.tree)
					soilPeer(got.p)
					soilLetters(got.out)
				}
				if !samePeer(wholePeer(asked), askedWas) || !sameTree(wholeTree(given), givenWas) || !sameTree(wholeTree(whole), was) {
					t.Fatalf("an argument is changed: %s, %s, %s", brief(wholePeer(asked)), brief(given), brief(whole))
				}
			}
		}
	}
}

// What is written into an argument, or into another answer, later is not seen in an answer.
func TestLeadAnswersNewMemory(t *testing.T) {
	own := func(tree []impl.Block) []impl.Block {
		_, front := roomyTree(tree)
		for _, b := range front {
			for i := range b.Cmds {
				b.Cmds[i].Key = strings.Clone(b.Cmds[i].Key)
			}
		}
		return front
	}
	tree := chainTree(4)
	for _, p := range chainPeers() {
		for _, cmds := range [][]impl.Cmd{nil, {set("abc", 1), add("de", 2)}, {set("WRONG", 1)}} {
			for i := range leadAnswers(tree, p, cmds) {
				front, asked := own(tree), ownMemory(p)
				given := own([]impl.Block{{Cmds: cmds}})
				answers := leadAnswers(front, asked, given[0].Cmds)
				got := answers[i]
				if keys := slices.Concat(cmdKeys(got.tree), keysOf(got.p.Cells, got.p.Undos), cmdKeys(front), cmdKeys(given), keysOf(asked.Cells, asked.Undos)); !ownKeys(keys) {
					t.Fatalf("answer %d: keys stand in one memory, or in an argument's: %s", i, brief(got))
				}
				want, wantPeer, said := copyTree(got.tree), ownMemory(got.p), slices.Clone(got.out)
				for j, other := range answers {
					if j != i {
						soilTree(other.tree)
						soilPeer(other.p)
						soilLetters(other.out)
					}
				}
				soilPeer(asked)
				soilTree(front)
				soilCmds(given[0].Cmds)
				if !sameTree(got.tree, want) || !samePeer(got.p, wantPeer) || !slices.Equal(got.out, said) {
					t.Fatalf("answer %d shares memory: %s", i, brief(got))
				}
				// No two lists of one answer share any.
				soilLetters(got.p.News)
				soilNumbers(got.p.Row)
				if !slices.Equal(got.p.Early, wantPeer.Early) || !slices.Equal(got.out, said) || !sameTree(got.tree, want) {
					t.Fatalf("answer %d: two lists share memory", i)
				}
				for k, b := range got.tree {
					soilCmds(b.Cmds)
					want[k].Cmds = slices.Clone(b.Cmds)
					if !sameTree(got.tree, want) {
						t.Fatalf("answer %d: the Cmds of two blocks share memory", i)
					}
				}
			}
		}
	}
}

// One list that is both the Cmds of blocks that are there and those that are handed in is one for each in the answer.
func TestShowsOwnCmds(t *testing.T) {
	shared := []impl.Cmd{set("a", 1), add("b", 2), take("a", 1), set("c", 3)}
	base := rowWith(1)
	tree := []impl.Block{first(), on(base, 0, 1, shared[:2]...), on(base, 0, 2, shared...)}
	for _, view := range []int{1, 2, 3, 0} {
		for i := range 4 {
			got, _, k := impl.Shows(tree, impl.Peer{View: view, High: tree[1].Just}, shared)
			want := copyTree(got)
			if (k >= 0) != (view > 0) || i >= len(got) {
				continue
			}
			soilCmds(got[i].Cmds)
			for other := range got {
				if other != i && !plainSame(got[other], want[other]) {
					t.Fatalf("the Cmds of the blocks at %d and %d share memory", i, other)
				}
			}
		}
	}
	if shared[0] != set("a", 1) || shared[3] != set("c", 3) {
		t.Errorf("what was handed in is changed: %v", shared)
	}
}

// An empty list with spare room is not handed back, either: what grows in the answer later grows elsewhere.
func TestLeadAnswersNoSpareRoom(t *testing.T) {
	_, front := roomyTree(chainTree(4))
	asked := roomyPeer(impl.Peer{View: 3})
	none := make([]impl.Cmd, 0, 3)
	for i, got := range leadAnswers(front, asked, none) {
		p := got.p
		if p.Row != nil && unsafe.SliceData(p.Row) == unsafe.SliceData(asked.Row) || p.Early != nil && unsafe.SliceData(p.Early) == unsafe.SliceData(asked.Early) || p.Cells != nil && unsafe.SliceData(p.Cells) == unsafe.SliceData(asked.Cells) ||
			p.Undos != nil && unsafe.SliceData(p.Undos) == unsafe.SliceData(asked.Undos) || p.Votes != nil && unsafe.SliceData(p.Votes) == unsafe.SliceData(asked.Votes) || p.News != nil && unsafe.SliceData(p.News) == unsafe.SliceData(asked.News) || got.out != nil && unsafe.SliceData(got.out) == unsafe.SliceData(asked.News) {
			t.Errorf("answer %d has a list of the argument's memory", i)
		}
		if unsafe.SliceData(got.tree) == unsafe.SliceData(front) {
			t.Errorf("answer %d is the tree that was handed in", i)
		}
		for k, b := range got.tree {
			if b.Cmds != nil && (unsafe.SliceData(b.Cmds) == unsafe.SliceData(none) || k < len(front) && unsafe.SliceData(b.Cmds) == unsafe.SliceData(front[k].Cmds)) {
				t.Errorf("answer %d: the Cmds at %d are an argument's memory", i, k)
			}
		}
	}
}

// The same is answered each time.
func TestLeadAnswersAreTheSameEachTime(t *testing.T) {
	tree := chainTree(4)
	cmds := []impl.Cmd{set("a", 1)}
	for _, p := range chainPeers() {
		was := leadAnswers(tree, p, cmds)
		for range 5 {
			for i, got := range leadAnswers(tree, p, cmds) {
				if !sameTree(got.tree, was[i].tree) || !samePeer(got.p, was[i].p) || !slices.Equal(got.out, was[i].out) {
					t.Fatalf("answer %d is %s, was %s", i, brief(got), brief(was[i]))
				}
			}
			if impl.Ready(p, 4, true) != plainReady(p, 4, true) || impl.BestQc(p) != plainBest(p) {
				t.Fatalf("another answer of %s", brief(p))
			}
		}
	}
}

// The chapter 'Ways': what is common of lists is generic: a type of lists of anything, whose methods Ready and BestQc reach.
func TestWhatIsCommonOfListsIsGeneric(t *testing.T) {
	file, err := parser.ParseFile(token.NewFileSet(), "../impl/l13_lead.go", nil, 0)
	if err != nil {
		t.Fatal(err)
	}
	lists := genericLists(file)
	if len(lists) == 0 {
		t.Fatal("no type of lists is generic")
	}
	functions := map[string]*ast.FuncDecl{}
	for _, d := range file.Decls {
		if f, ok := d.(*ast.FuncDecl); ok {
			functions[f.Name.Name] = f
		}
	}
	for _, from := range []string{"Ready", "BestQc"} {
		reached, found := []string{from}, 0
		for i := 0; i < len(reached); i++ {
			f := functions[reached[i]]
			if f.Recv != nil && slices.Contains(lists, receiverOf(f)) {
				found++
			}
			ast.Inspect(f, func(n ast.Node) bool {
				if name, ok := n.(*ast.Ident); ok && functions[name.Name] != nil && !slices.Contains(reached, name.Name) {
					reached = append(reached, name.Name)
				}
				return true
			})
		}
		if found == 0 {
			t.Errorf("%s reaches no method of %v", from, lists)
		}
	}
}

// genericLists are the names of types of lists that have a type parameter.
func genericLists(file *ast.File) []string {
	var out []string
	ast.Inspect(file, func(n ast.Node) bool {
		if spec, ok := n.(*ast.TypeSpec); ok && spec.TypeParams != nil {
			if list, ok := spec.Type.(*ast.ArrayType); ok && list.Len == nil {
				out = append(out, spec.Name.Name)
			}
		}
		return true
	})
	return out
}

// receiverOf is the name of a generic type whose method this is.
func receiverOf(f *ast.FuncDecl) string {
	if of, ok := f.Recv.List[0].Type.(*ast.IndexExpr); ok {
		if name, ok := of.X.(*ast.Ident); ok {
			return name.Name
		}
	}
	return ""
}
