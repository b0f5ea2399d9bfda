package tests

import (
	"go/ast"
	"go/parser"
	"go/token"
	"math"
	"slices"
	"testing"
	"unsafe"

	"loop.example/g00330/impl"
)

// plainTimedOut and plainFarthest are the chapter's own words, sentence by sentence.
func plainTimedOut(p impl.Peer, n int) (impl.Peer, impl.Letter, bool) {
	if n < 1 || n > 7 || p.View > 899 {
		return p, impl.Letter{}, false
	}
	p.View, p.Votes, p.News = p.View+1, nil, nil
	return p, impl.Letter{Kind: 4, From: p.Id, To: plainLeader(p.View, n), View: p.View, Qc: p.High}, true
}

func plainFarthest(list []impl.Peer) int {
	var views []int
	for _, p := range list {
		views = append(views, p.View)
	}
	if slices.Sort(views); len(views) == 0 {
		return 0
	}
	return views[len(views)-1]
}

func holdTimedOut(t *testing.T, p impl.Peer, n int, want impl.Peer, said impl.Letter, begins bool) {
	t.Helper()
	if got, l, ok := impl.TimedOut(p, n); !samePeer(got, want) || l != said || ok != begins {
		t.Fatalf("TimedOut(%s, %d) =\n%s, %+v, %v, want\n%s, %+v, %v", brief(p), n, brief(got), l, ok, brief(want), said, begins)
	}
}

// holdWaits is for one that has no next View, or is among too few or too many: it is as it is, and nothing is said.
func holdWaits(t *testing.T, p impl.Peer, n int) {
	t.Helper()
	holdTimedOut(t, p, n, p, impl.Letter{}, false)
}

func holdFarthest(t *testing.T, list []impl.Peer, want int) {
	t.Helper()
	if got := impl.FarthestView(list); got != want {
		t.Fatalf("FarthestView(%s) = %d, want %d", brief(list), got, want)
	}
}

// ofViews are replicas of these Views, in order.
func ofViews(views ...int) []impl.Peer {
	var out []impl.Peer
	for id, view := range views {
		out = append(out, inView(id, view))
	}
	return out
}

// pacers are replicas with something in all of them, in Views at the edges and between.
func pacers() []impl.Peer {
	tree := chainTree(4)
	var out []impl.Peer
	for i, view := range []int{1, 2, 3, 4, 7, 27, 450, impl.MaxView - 2, impl.MaxView - 1, impl.MaxView, impl.MaxView + 1, 0, -1, math.MinInt, math.MaxInt} {
		p := atRow(tree, 1+i%3, 5)
		p.Id, p.View, p.Shown = i%7, view, view-1
		p.High, p.Lock = signedQc(tree, 4, impl.PhChain, 4), signedQc(tree, 4, impl.PhChain, 3)
		p.Last = impl.Vote{Phase: impl.PhChain, View: tree[5].View, Block: 5, By: p.Id}
		p.Votes, p.News = votesOf(impl.PhChain, view-1, 5, 7), newsOf(3, p.Id, view)
		out = append(out, p, impl.Peer{Id: p.Id, View: view})
	}
	return out
}

// By hand: who waits in View 3 begins View 4, and writes to 1, who leads it.
func TestTimedOut(t *testing.T) {
	high := impl.Qc{Phase: impl.PhOne, View: 2, Block: 6, Signers: 11}
	p := impl.Peer{Id: 2, View: 3, High: high, Lock: impl.Qc{Phase: impl.PhTwo, View: 1, Block: 4, Signers: 7}, Last: impl.Vote{Phase: impl.PhOne, View: 3, Block: 8, By: 2}}
	want := p
	want.View = 4
	holdTimedOut(t, p, 4, want, impl.Letter{Kind: impl.LtView, From: 2, To: 1, View: 4, Qc: high}, true)
	// One that waits on writes to the same one, as long as that one leads.
	for view, to := range []int{5: 1, 6: 1, 7: 1, 8: 2, 9: 2, 10: 2, 11: 2, 12: 3, 15: 3, 16: 0} {
		if to == 0 && view != 16 {
			continue
		}
		p.View, want.View = view-1, view
		holdTimedOut(t, p, 4, want, impl.Letter{Kind: impl.LtView, From: 2, To: to, View: view, Qc: high}, true)
	}
	// One that knows nothing tells nothing; it may write to itself.
	for id := range 7 {
		holdTimedOut(t, impl.PeerNew(id), 7, impl.Peer{Id: id, View: 2}, impl.Letter{Kind: impl.LtView, From: id, View: 2}, true)
	}
}

// Of every View there is a next one, but of the last one, and of those past it.
func TestTimedOutOfEachView(t *testing.T) {
	for n := 1; n <= impl.MaxPeers; n++ {
		for view := 1; view < impl.MaxView; view++ {
			p := impl.Peer{Id: view % n, View: view, High: ofView(view/2, 3, 5)}
			next := view + 1
			holdTimedOut(t, p, n, impl.Peer{Id: p.Id, View: next, High: p.High}, impl.Letter{Kind: impl.LtView, From: p.Id, To: next / 4 % n, View: next, Qc: p.High}, true)
		}
		for _, p := range []impl.Peer{{}, {Id: n - 1, High: ofView(899, 3, 5)}, inView(n/2, 0), atRow(chainTree(n), 2, 5)} {
			for _, view := range []int{impl.MaxView, impl.MaxView + 1, impl.MaxView + 2, impl.MaxView + 4, 1000, 1 << 32, math.MaxInt - 1, math.MaxInt} {
				p.View = view
				holdWaits(t, p, n)
			}
			for _, view := range []int{impl.MaxView - 1, impl.MaxView - 2} {
				p.View = view
				holdTimedOut(t, p, n, begun(p, view+1), newsTo(p.Id, (view+1)/4%n, view+1, p.High), true)
			}
			// A View below the first one is followed by the next one, too; 0 leads these.
			for _, view := range []int{math.MinInt, math.MinInt + 1, -1 << 40, -901, -900, -5, -4, -2, -1, 0} {
				p.View = view
				holdTimedOut(t, p, n, begun(p, view+1), newsTo(p.Id, 0, view+1, p.High), true)
			}
		}
	}
}

func TestTimedOutAmongAnyNumber(t *testing.T) {
	for _, p := range pacers() {
		for _, n := range []int{math.MinInt, math.MinInt + 1, -impl.MaxPeers, -1, 0, impl.MaxPeers + 1, impl.MaxPeers + 2, 64, 1 << 32, 1<<32 + 4, math.MaxInt} {
			holdWaits(t, p, n)
		}
		for n := 1; n <= impl.MaxPeers; n++ {
			if p.View >= impl.MaxView {
				holdWaits(t, p, n)
				continue
			}
			to := 0
			if p.View > 0 {
				to = (p.View + 1) / 4 % n
			}
			holdTimedOut(t, p, n, begun(p, p.View+1), newsTo(p.Id, to, p.View+1, p.High), true)
		}
	}
	// Who it is is not asked: one that is not among n begins the next View, too.
	for _, id := range fieldNumbers() {
		p := inView(id, 6)
		holdTimedOut(t, p, 4, begun(p, 7), newsTo(id, 1, 7, impl.Qc{}), true)
	}
}

// What it heard for its View goes with that; where no View is begun, it stays.
func TestTimedOutVotesAndNews(t *testing.T) {
	tree := askTree(4)
	for _, view := range []int{1, 3, 4, 8, impl.MaxView - 1, impl.MaxView} {
		for votes := range 9 {
			for news := range 5 {
				p := impl.Peer{Id: 1, View: view, High: signedQc(tree, 4, impl.PhOne, 4), Votes: votesOf(impl.PhOne, view, 4, 1<<votes-1), News: newsOf(news, 1, view)}
				holdWaits(t, p, 0)
				if view == impl.MaxView {
					holdWaits(t, p, 4)
					continue
				}
				got, l, ok := impl.TimedOut(p, 4)
				if !ok || len(got.Votes) != 0 || len(got.News) != 0 || l.Vote != (impl.Vote{}) || l.Block != 0 {
					t.Fatalf("TimedOut(%s, 4) = %s, %+v, %v", brief(p), brief(got), l, ok)
				}
				holdTimedOut(t, p, 4, impl.Peer{Id: 1, View: view + 1, High: p.High}, newsTo(1, (view+1)/4%4, view+1, p.High), true)
			}
		}
	}
}

// It tells of High, and of nothing else that it knows: neither of its Lock, nor of what was told to it.
func TestTimedOutTellsHigh(t *testing.T) {
	p := inView(3, 9)
	p.Lock, p.Last = ofView(8, 2, 77), impl.Vote{Phase: 1, View: 9, Block: 4, By: 3}
	for i := range p.News {
		p.News[i].Qc = ofView(8, 6, 99)
	}
	for _, num := range fieldNumbers() {
		for i := range 4 {
			p.High = ofView(5, 3, 11)
			*[]*int{&p.High.Phase, &p.High.View, &p.High.Block, &p.High.Signers}[i] = num
			holdTimedOut(t, p, 4, begun(p, 10), impl.Letter{Kind: impl.LtView, From: 3, To: 2, View: 10, Qc: p.High}, true)
		}
	}
}

func TestTimedOutByTheWords(t *testing.T) {
	begins, waits := 0, 0
	hold := func(p impl.Peer, n int) {
		t.Helper()
		want, l, ok := plainTimedOut(p, n)
		holdTimedOut(t, p, n, want, l, ok)
		if ok {
			begins++
		} else {
			waits++
		}
	}
	for _, n := range somePeers() {
		for _, p := range slices.Concat(wildPeers(), pacers(), hearers(), chainPeers()) {
			hold(p, n)
		}
	}
	draw, tree := drawn(53), chainTree(5)
	for range 20000 {
		view := draw(impl.MaxView + 20)
		p := impl.Peer{Id: draw(8), View: view, High: ofView(draw(view+2), draw(9), draw(128)), Lock: ofView(draw(view+2), draw(9), draw(128)), Shown: draw(view + 2)}
		p.Row = plainRowTo(tree, draw(len(tree)))
		p.Cells = plainRowCells(tree, p.Row)
		p.Votes, p.News = votesOf(1+draw(4), view, draw(9), draw(128)), newsOf(draw(8), p.Id, view)
		hold(p, draw(10))
	}
	if begins < 1000 || waits < 1000 {
		t.Errorf("only %d begin a View, %d do not", begins, waits)
	}
}

// holdPacePromise is promise 14, of one replica.
func holdPacePromise(t *testing.T, tree []impl.Block, n int, p impl.Peer, got impl.Peer, l impl.Letter, ok bool) {
	t.Helper()
	fault := func(what string) {
		t.Helper()
		t.Fatalf("%s: among %d, %s\nis %s, says %+v, %v", what, n, brief(p), brief(got), l, ok)
	}
	if !ok {
		if p.View < impl.MaxView {
			fault("the next View is not begun")
		}
		if !samePeer(got, p) || l != (impl.Letter{}) {
			fault("it is not as it was")
		}
		return
	}
	kept, was := got, p
	kept.View, was.View = 1, 1
	switch {
	case got.View != p.View+1 || got.View > impl.MaxView:
		fault("it is not the next View")
	case len(got.Votes) != 0 || len(got.News) != 0:
		fault("something is heard for it already")
	case impl.KeptText(kept) != impl.KeptText(was):
		fault("what it kept is another one")
	case !slices.Equal(got.Row, p.Row) || !slices.Equal(got.Cells, p.Cells):
		fault("what it let through is another one")
	case !slices.Equal(got.Early, p.Early) || !slices.Equal(got.Undos, p.Undos) || got.Shown != p.Shown:
		fault("the rest of it is another one")
	case l != newsTo(p.Id, plainLeader(got.View, n), got.View, p.High):
		fault("it does not tell the leader of that View of its High")
	case plainPeerOk(tree, n, p) != plainPeerOk(tree, n, got):
		fault("it is right no more")
	case plainPeerOk(tree, n, p) && p.High.View < got.View && !plainLetterOk(tree, n, l):
		fault("the letter is not right")
	}
}

// Promise 14: a replica goes on View by View, whatever it is, up to the last one, where it stays.
func TestWhenNothingComesTheNextViewIsBegun(t *testing.T) {
	for n := 1; n <= impl.MaxPeers; n++ {
		tree := letterTree(n)
		for i, p := range rightPeers(tree, n) {
			got, l, ok := impl.TimedOut(p, n)
			holdPacePromise(t, tree, n, p, got, l, ok)
			if i%40 > 0 {
				continue
			}
			passed := 0
			for view := p.View; view < impl.MaxView; view++ {
				got, l, ok = impl.TimedOut(p, n)
				holdPacePromise(t, tree, n, p, got, l, ok)
				if !ok {
					t.Fatalf("among %d: %s is not begun", n, brief(p))
				}
				p = got
				passed++
			}
			if got, l, ok = impl.TimedOut(p, n); ok || p.View != impl.MaxView || passed > impl.MaxView-1 {
				t.Fatalf("among %d: behind %d Views %s is %s, %+v", n, passed, brief(p), brief(got), l)
			}
			holdPacePromise(t, tree, n, p, got, l, ok)
		}
	}
}

// When nothing but these letters comes, the leader of each View hears of all that waited, and is Ready once they are enough, in both ways.
func TestWhenAllWaitTheNextLeaderIsReady(t *testing.T) {
	for n := 1; n <= impl.MaxPeers; n++ {
		tree := letterTree(n)
		low, high := signedQc(tree, n, impl.PhOne, 1), signedQc(tree, n, impl.PhChain, 2)
		var peers []impl.Peer
		for id := range n {
			peers = append(peers, impl.Peer{Id: id, View: high.View, High: low})
		}
		// Only the last one knows the highest Qc: it is told by its letter.
		peers[n-1].High = high
		for view := peers[0].View + 1; view <= impl.MaxView; view++ {
			leader := plainLeader(view, n)
			var pool []impl.Letter
			for id, p := range peers {
				got, l, ok := impl.TimedOut(p, n)
				holdPacePromise(t, tree, n, p, got, l, ok)
				if !ok || l.To != leader || l.View != view || !plainLetterOk(tree, n, l) {
					t.Fatalf("among %d: %d says %+v in View %d", n, id, l, view)
				}
				peers[id], pool = got, append(pool, l)
			}
			for heard, l := range pool {
				for _, chain := range []bool{false, true} {
					along := chain && peers[leader].High.View == view-1
					holdReady(t, peers[leader], n, chain, heard >= plainQuorum(n) || along)
				}
				peers[leader], _ = impl.LeadHear(tree, n, peers[leader], l)
			}
			holdReadyBoth(t, peers[leader], n, true)
			holdBest(t, peers[leader], high)
			holdFarthest(t, peers, view)
			for id := range peers {
				if id != leader {
					holdReadyBoth(t, peers[id], n, false)
				}
			}
		}
		for _, p := range peers {
			holdWaits(t, p, n)
		}
	}
}

// paceHall is a leadHall whose replicas begin the next View when nothing comes, and which may be silent for a while.
type paceHall struct {
	leadHall
	waited int
}

func (h *paceHall) waits(t *testing.T, id int) {
	t.Helper()
	p := h.peers[id]
	got, l, ok := impl.TimedOut(p, h.n)
	holdPacePromise(t, h.tree, h.n, p, got, l, ok)
	if !ok {
		return
	}
	h.peers[id] = got
	h.pool = append(h.pool, l)
	h.waited++
}

// farthest is held against all Views of those who don't lie, and never falls.
func (h *paceHall) farthest(t *testing.T) int {
	t.Helper()
	honest := h.peers[h.liars:]
	holdFarthest(t, honest, plainFarthest(honest))
	return impl.FarthestView(honest)
}

func (h *paceHall) step(t *testing.T) {
	top := h.farthest(t)
	for id := h.liars; id < h.n; id++ {
		h.leads(t, id)
	}
	if h.liars > 0 && h.draw(4) == 0 {
		h.lie(top)
	}
	if h.draw(90) == 0 {
		h.pool = nil
	}
	if len(h.pool) == 0 || h.draw(60) == 0 {
		for id := h.liars; id < h.n; id++ {
			if h.peers[id].View < top || h.draw(3) > 0 {
				h.waits(t, id)
			}
		}
		return
	}
	at := h.draw(min(len(h.pool), 3*h.n))
	l := h.pool[at]
	h.pool = slices.Delete(h.pool, at, at+1)
	if !h.lies(l.To) {
		h.hears(t, l)
	}
}

// Promise 14, of all together: whoever lies and whatever is lost, who waits goes on, and rows are beginnings of one another.
func TestWaitingGoesOn(t *testing.T) {
	for _, chain := range []bool{false, true} {
		waited, blocks, rows := 0, 0, 0
		for seed := range uint32(60) {
			n := []int{1, 4, 4, 5, 7, 7, 2, 3}[seed%8]
			liars := (n - 1) / 3
			if seed%3 == 2 {
				liars = 0
			}
			h := &paceHall{leadHall: *newLeadHall(n, liars, chain, drawn(seed*991+7))}
			far := 0
			for range 500 {
				h.step(t)
				if now := h.farthest(t); now < far {
					t.Fatalf("seed %d: the farthest View falls from %d to %d", seed, far, now)
				} else {
					far = now
				}
			}
			waited, blocks = waited+h.waited, blocks+len(h.tree)-1
			for id := liars; id < n; id++ {
				row := h.peers[id].Row
				rows += len(row)
				for other := liars; other < n; other++ {
					if o := h.peers[other].Row; !plainBeginning(row, o) && !plainBeginning(o, row) {
						t.Fatalf("seed %d: %d has %v, %d has %v", seed, id, row, other, o)
					}
				}
			}
		}
		if waited < 500 || blocks < 500 || rows < 300 {
			t.Errorf("with chain %v: only %d times one waits, %d blocks are shown, %d go through", chain, waited, blocks, rows)
		}
	}
}

func TestFarthestView(t *testing.T) {
	most, least := math.MaxInt, math.MinInt
	for _, c := range []struct {
		what  string
		views []int
		want  int
	}{
		{"no replica", nil, 0},
		{"one", []int{7}, 7},
		{"one in View 0", []int{0}, 0},
		{"one below 0", []int{-3}, -3},
		{"the least alone", []int{least}, least},
		{"the greatest alone", []int{most}, most},
		{"the greatest first", []int{9, 3, 8, 1}, 9},
		{"the greatest in the middle", []int{3, 8, 9, 1, 2}, 9},
		{"the greatest last", []int{1, 8, 3, 9}, 9},
		{"all the same", []int{5, 5, 5}, 5},
		{"the greatest twice", []int{4, 6, 5, 6, 1}, 6},
		{"all below 0", []int{-3, -1, -2}, -1},
		{"all below 0, the greatest first", []int{-1, -9, -2}, -1},
		{"all below 0, the greatest last", []int{least, -9, -2}, -2},
		{"0 and below", []int{-4, 0, -1}, 0},
		{"below 0 and above", []int{-900, 1, -1}, 1},
		{"about the last View", []int{impl.MaxView, impl.MaxView + 1, impl.MaxView - 1}, impl.MaxView + 1},
		{"the greatest and the least", []int{least, most, 0, least}, most},
		{"the least several times", []int{least, least}, least},
		{"just above the least", []int{least, least + 1, least}, least + 1},
	} {
		t.Run(c.what, func(t *testing.T) { holdFarthest(t, ofViews(c.views...), c.want) })
	}
	holdFarthest(t, []impl.Peer{}, 0)
	// What stands behind the list is not in it.
	list := ofViews(3, 5, 4, 800, 900)
	holdFarthest(t, list[:3], 5)
	holdFarthest(t, list[:0], 0)
	holdFarthest(t, list[2:4], 800)
}

// The greatest stands at every place of lists of every length once, and nothing but View counts.
func TestFarthestViewAtEachPlace(t *testing.T) {
	for size := 1; size <= 40; size++ {
		for at := range size {
			for _, low := range []int{-70, 1, 600, math.MinInt} {
				list := make([]impl.Peer, size)
				for i := range list {
					list[i] = withTheRest(impl.Peer{Id: 900 + i, View: low + i%3, High: ofView(999, 1, 1), Lock: ofView(999, 1, 1), Last: impl.Vote{View: 999}})
					list[i].Shown = 999
				}
				list[at].View = low + 10
				holdFarthest(t, list, low+10)
			}
		}
	}
}

func TestFarthestViewByTheWords(t *testing.T) {
	draw := drawn(59)
	for range 20000 {
		var list []impl.Peer
		for range draw(9) {
			list = append(list, impl.Peer{Id: draw(7), View: draw(40) - 20})
		}
		holdFarthest(t, list, plainFarthest(list))
	}
	numbers := fieldNumbers()
	for range 5000 {
		var list []impl.Peer
		for range draw(6) {
			list = append(list, impl.Peer{View: numbers[draw(len(numbers))]})
		}
		holdFarthest(t, list, plainFarthest(list))
	}
	holdFarthest(t, wildPeers(), math.MaxInt)
	holdFarthest(t, make([]impl.Peer, 100000), 0)
}

// paceAnswers are of replicas that begin a View, and of such as don't.
func paceAnswers(p impl.Peer) []impl.Peer {
	var out []impl.Peer
	for _, n := range []int{4, 0, impl.MaxPeers, impl.MaxPeers + 1} {
		for _, view := range []int{p.View, 5, impl.MaxView - 1, impl.MaxView, impl.MaxView + 1} {
			q := p
			q.View = view
			got, _, _ := impl.TimedOut(q, n)
			out = append(out, got)
		}
	}
	return out
}

func TestPaceArgumentsStay(t *testing.T) {
	for _, p := range slices.Concat(pacers(), hearers(), chainPeers(), somePlainPeers()) {
		asked := ownMemory(p)
		was := wholePeer(asked)
		for _, n := range somePeers() {
			// What stands in the spare room is not looked at, nor told.
			want, l, ok := plainTimedOut(p, n)
			holdTimedOut(t, asked, n, want, l, ok)
		}
		for _, got := range paceAnswers(asked) {
			soilPeer(got)
		}
		if !samePeer(wholePeer(asked), was) {
			t.Fatalf("the replica is changed: %s, was %s", brief(wholePeer(asked)), brief(was))
		}
	}
	var list, was []impl.Peer
	for _, p := range append(pacers(), impl.Peer{View: math.MaxInt, Id: 77}) {
		list = append(list, ownMemory(p))
		was = append(was, wholePeer(list[len(list)-1]))
	}
	for size := range list {
		holdFarthest(t, list[:size], plainFarthest(list[:size]))
		for i, p := range list {
			if !samePeer(wholePeer(p), was[i]) {
				t.Fatalf("replica %d of the list is changed: %s, was %s", i, brief(p), brief(was[i]))
			}
		}
	}
}

// What is written into an argument, or into another answer, later is not seen in an answer.
func TestPaceAnswersNewMemory(t *testing.T) {
	for _, p := range slices.Concat(pacers(), chainPeers(), somePlainPeers()) {
		for i := range paceAnswers(p) {
			asked := ownMemory(p)
			answers := paceAnswers(asked)
			got := answers[i]
			if !ownKeys(append(keysOf(got.Cells, got.Undos), keysOf(asked.Cells, asked.Undos)...)) {
				t.Fatalf("answer %d: keys stand in one memory, or in an argument's: %s", i, brief(got))
			}
			want := ownMemory(got)
			for j, other := range answers {
				if j != i {
					soilPeer(other)
				}
			}
			soilPeer(asked)
			if !samePeer(got, want) {
				t.Fatalf("answer %d shares memory: %s, was %s", i, brief(got), brief(want))
			}
			// No two lists of one answer share any: only Row and Early are of one kind.
			soilNumbers(got.Row)
			if !slices.Equal(got.Early, want.Early) {
				t.Fatalf("answer %d: Row and Early share memory", i)
			}
		}
	}
}

// One list that is both Row and Early is one for each in the answer.
func TestTimedOutOwnLists(t *testing.T) {
	for _, view := range []int{3, impl.MaxView} {
		shared := []int{1, 2, 3, 4, 5}
		got, _, _ := impl.TimedOut(impl.Peer{Id: 1, View: view, Row: shared[:3], Early: shared[1:]}, 4)
		soilNumbers(got.Row)
		if !slices.Equal(got.Early, []int{2, 3, 4, 5}) || !slices.Equal(shared, []int{1, 2, 3, 4, 5}) {
			t.Errorf("in View %d Row and Early share memory: %v, of %v", view, got.Early, shared)
		}
	}
}

// An empty list with spare room is not handed back, either: what grows in the answer later grows elsewhere.
func TestPaceAnswersNoSpareRoom(t *testing.T) {
	asked := roomyPeer(impl.PeerNew(2))
	for i, got := range paceAnswers(asked) {
		if got.Row != nil && unsafe.SliceData(got.Row) == unsafe.SliceData(asked.Row) || got.Early != nil && unsafe.SliceData(got.Early) == unsafe.SliceData(asked.Early) || got.Cells != nil && unsafe.SliceData(got.Cells) == unsafe.SliceData(asked.Cells) ||
			got.Undos != nil && unsafe.SliceData(got.Undos) == unsafe.SliceData(asked.Undos) || got.Votes != nil && unsafe.SliceData(got.Votes) == unsafe.SliceData(asked.Votes) || got.News != nil && unsafe.SliceData(got.News) == unsafe.SliceData(asked.News) {
			t.Errorf("answer %d has a list of the argument's memory", i)
		}
	}
}

// The same is answered each time.
func TestPaceAnswersAreTheSameEachTime(t *testing.T) {
	list := pacers()
	for range 20 {
		for _, p := range list {
			want, l, ok := plainTimedOut(p, 4)
			holdTimedOut(t, p, 4, want, l, ok)
		}
		holdFarthest(t, list, math.MaxInt)
	}
}

// The chapter 'Ways': Views are ranged over by whole numbers. FarthestView, or what it reaches in its file, ranges up to a len, and reads Views there.
func TestViewsAreRangedOverByWholeNumbers(t *testing.T) {
	file, err := parser.ParseFile(token.NewFileSet(), "../impl/l14_pace.go", nil, 0)
	if err != nil {
		t.Fatal(err)
	}
	functions := map[string]*ast.FuncDecl{}
	for _, d := range file.Decls {
		if f, ok := d.(*ast.FuncDecl); ok {
			functions[f.Name.Name] = f
		}
	}
	reached, found := []string{"FarthestView"}, 0
	for i := 0; i < len(reached); i++ {
		ast.Inspect(functions[reached[i]], func(n ast.Node) bool {
			switch x := n.(type) {
			case *ast.Ident:
				if functions[x.Name] != nil && !slices.Contains(reached, x.Name) {
					reached = append(reached, x.Name)
				}
			case *ast.RangeStmt:
				if up, ok := x.X.(*ast.CallExpr); ok && calls(up, "len") && readsView(x.Body) {
					found++
				}
			}
			return true
		})
	}
	if found == 0 {
		t.Error("FarthestView ranges over no Views by whole numbers")
	}
}

// readsView tells whether a field View is asked for there.
func readsView(body *ast.BlockStmt) bool {
	found := false
	ast.Inspect(body, func(n ast.Node) bool {
		if s, ok := n.(*ast.SelectorExpr); ok && s.Sel.Name == "View" {
			found = true
		}
		return true
	})
	return found
}
