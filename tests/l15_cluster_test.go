package tests

import (
	"go/ast"
	"go/parser"
	"go/token"
	"math"
	"math/big"
	"slices"
	"strconv"
	"strings"
	"testing"
	"unsafe"

	"loop.example/g00330/impl"
)

func sameCluster(a impl.Cluster, b impl.Cluster) bool {
	return a.N == b.N && a.Chain == b.Chain && a.Liars == b.Liars && sameTree(a.Tree, b.Tree) && slices.EqualFunc(a.Peers, b.Peers, samePeer) &&
		slices.Equal(a.Net, b.Net) && slices.Equal(a.Said, b.Said) && slices.Equal(a.Pending, b.Pending)
}

// The plain ones are the chapter's own words, sentence by sentence.
func plainClusterNew(n int, chain bool, liars int) (impl.Cluster, bool) {
	if n < 1 || n > 7 || liars < 0 || liars > 1<<n-1 {
		return impl.Cluster{}, false
	}
	c := impl.Cluster{N: n, Chain: chain, Liars: liars, Tree: []impl.Block{first()}}
	left := n
	for id := range n {
		c.Peers = append(c.Peers, impl.Peer{Id: id, View: 1})
		left -= liars >> id & 1
	}
	// No more lie than a third of those but one.
	if 3*(n-left) > n-1 {
		return impl.Cluster{}, false
	}
	return c, true
}

func plainLies(c impl.Cluster, i int) bool {
	return i >= 0 && i < c.N && new(big.Int).SetUint64(uint64(c.Liars)).Bit(i) == 1
}

func plainNone(c impl.Cluster, i int) bool { return i < 0 || i >= len(c.Peers) }

func withPeerAt(c impl.Cluster, i int, p impl.Peer) impl.Cluster {
	c.Peers = slices.Clone(c.Peers)
	c.Peers[i] = p
	return c
}

func plainOffer(c impl.Cluster, x impl.Cmd) (impl.Cluster, bool) {
	if !impl.CmdOk(x) || len(c.Pending) >= 8 {
		return c, false
	}
	c.Pending = slices.Concat(c.Pending, []impl.Cmd{x})
	return c, true
}

func plainPost(c impl.Cluster, list []impl.Letter) (impl.Cluster, bool) {
	net := slices.Concat(c.Net, list)
	if len(net) > 60 {
		return c, false
	}
	c.Net = net
	return c, true
}

func plainShowBlock(c impl.Cluster, i int) (impl.Cluster, bool) {
	if plainNone(c, i) || plainLies(c, i) || !plainReady(c.Peers[i], c.N, c.Chain) {
		return c, false
	}
	cmds := c.Pending[:min(4, len(c.Pending))]
	tree, p, k := plainShows(c.Tree, c.Peers[i], cmds)
	if k == -1 {
		return c, false
	}
	next, ok := plainPost(c, plainShownTo(tree, p, k, c.N))
	if !ok {
		return c, false
	}
	next = withPeerAt(next, i, p)
	next.Tree, next.Pending = tree, c.Pending[len(cmds):]
	return next, true
}

func plainLoseAt(c impl.Cluster, k int) (impl.Cluster, bool) {
	if k < 0 || k >= len(c.Net) {
		return c, false
	}
	c.Net = slices.Concat(c.Net[:k], c.Net[k+1:])
	return c, true
}

func plainCarryAt(c impl.Cluster, k int) (impl.Cluster, bool) {
	next, ok := plainLoseAt(c, k)
	if !ok {
		return c, false
	}
	l := c.Net[k]
	if plainNone(c, l.To) || plainLies(c, l.To) {
		return next, true
	}
	hear := plainAsk
	if c.Chain {
		hear = plainChain
	}
	p, said := hear(c.Tree, c.N, c.Peers[l.To], l)
	next = withPeerAt(next, l.To, p)
	for _, out := range said {
		if len(next.Net) < 60 {
			next.Net = slices.Concat(next.Net, []impl.Letter{out})
		}
		if out.Kind == 2 && !slices.Contains(next.Said, out.Vote) {
			next.Said = slices.Concat(next.Said, []impl.Vote{out.Vote})
		}
	}
	return next, true
}

func plainTwiceAt(c impl.Cluster, k int) (impl.Cluster, bool) {
	if k < 0 || k >= len(c.Net) || len(c.Net) >= 60 {
		return c, false
	}
	c.Net = slices.Concat(c.Net, c.Net[k:k+1])
	return c, true
}

func plainWaitOut(c impl.Cluster, i int) (impl.Cluster, bool) {
	if plainNone(c, i) || plainLies(c, i) {
		return c, false
	}
	p, l, ok := plainTimedOut(c.Peers[i], c.N)
	if !ok {
		return c, false
	}
	next := withPeerAt(c, i, p)
	if len(c.Net) < 60 {
		next.Net = slices.Concat(c.Net, []impl.Letter{l})
	}
	return next, true
}

func plainFallAt(c impl.Cluster, i int) (impl.Cluster, bool) {
	if plainNone(c, i) || plainLies(c, i) {
		return c, false
	}
	return withPeerAt(c, i, plainFallen(c.Tree, c.Peers[i])), true
}

// deed is one thing that may be done to a cluster, by the program and by the chapter's words.
type deed struct {
	what string
	done func(impl.Cluster) (impl.Cluster, bool)
	told func(impl.Cluster) (impl.Cluster, bool)
}

func deedAt(what string, done func(impl.Cluster, int) (impl.Cluster, bool), told func(impl.Cluster, int) (impl.Cluster, bool), at int) deed {
	return deed{what + " " + strconv.Itoa(at),
		func(c impl.Cluster) (impl.Cluster, bool) { return done(c, at) },
		func(c impl.Cluster) (impl.Cluster, bool) { return told(c, at) }}
}

func showing(i int) deed  { return deedAt("ShowBlock", impl.ShowBlock, plainShowBlock, i) }
func carrying(k int) deed { return deedAt("CarryAt", impl.CarryAt, plainCarryAt, k) }
func losing(k int) deed   { return deedAt("LoseAt", impl.LoseAt, plainLoseAt, k) }
func doubling(k int) deed { return deedAt("TwiceAt", impl.TwiceAt, plainTwiceAt, k) }
func waiting(i int) deed  { return deedAt("WaitOut", impl.WaitOut, plainWaitOut, i) }
func falling(i int) deed  { return deedAt("FallAt", impl.FallAt, plainFallAt, i) }

func offering(x impl.Cmd) deed {
	return deed{"Offer " + brief(x),
		func(c impl.Cluster) (impl.Cluster, bool) { return impl.Offer(c, x) },
		func(c impl.Cluster) (impl.Cluster, bool) { return plainOffer(c, x) }}
}

func posting(list ...impl.Letter) deed {
	return deed{"Post " + brief(list),
		func(c impl.Cluster) (impl.Cluster, bool) { return impl.Post(c, list) },
		func(c impl.Cluster) (impl.Cluster, bool) { return plainPost(c, list) }}
}

// deedsAt are all deeds that are done at a place.
func deedsAt(at int) []deed {
	return []deed{showing(at), carrying(at), losing(at), doubling(at), waiting(at), falling(at)}
}

// holdDeed answers what was done, so that one can go on with it.
func holdDeed(t *testing.T, c impl.Cluster, d deed) (impl.Cluster, bool) {
	t.Helper()
	got, ok := d.done(c)
	if want, wantOk := d.told(c); ok != wantOk || !sameCluster(got, want) {
		t.Fatalf("%s of\n%+v\nis\n%+v, %v, want\n%+v, %v", d.what, c, got, ok, want, wantOk)
	}
	return got, ok
}

func holdMade(t *testing.T, c impl.Cluster, d deed, want impl.Cluster) impl.Cluster {
	t.Helper()
	got, ok := d.done(c)
	if !ok || !sameCluster(got, want) {
		t.Fatalf("%s of\n%+v\nis\n%+v, %v, want\n%+v", d.what, c, got, ok, want)
	}
	return got
}

func holdRefused(t *testing.T, c impl.Cluster, deeds ...deed) {
	t.Helper()
	for _, d := range deeds {
		if got, ok := d.done(c); ok || !sameCluster(got, c) {
			t.Fatalf("%s of\n%+v\nis\n%+v, %v, is not refused", d.what, c, got, ok)
		}
	}
}

// after goes on with each deed that must be done.
func after(t *testing.T, c impl.Cluster, deeds ...deed) impl.Cluster {
	t.Helper()
	for _, d := range deeds {
		next, ok := holdDeed(t, c, d)
		if !ok {
			t.Fatalf("%s of\n%+v is refused", d.what, c)
		}
		c = next
	}
	return c
}

func newCluster(t *testing.T, n int, chain bool, liars int) impl.Cluster {
	t.Helper()
	c, ok := impl.ClusterNew(n, chain, liars)
	if !ok {
		t.Fatalf("ClusterNew(%d, %v, %d) is refused", n, chain, liars)
	}
	return c
}

// someNews are so many letters, no two of them alike, which nobody needs.
func someNews(count int) []impl.Letter {
	var out []impl.Letter
	for i := range count {
		out = append(out, newsTo(1, 2, 300+i, impl.Qc{}))
	}
	return out
}

func withNet(c impl.Cluster, net ...impl.Letter) impl.Cluster {
	c.Net = net
	return c
}

func TestClusterNew(t *testing.T) {
	var liars []int
	for bits := -3; bits < 300; bits++ {
		liars = append(liars, bits)
	}
	liars = append(append(liars, fieldNumbers()...), 1<<32, 1<<32+1, 1<<62, math.MinInt+1)
	right := 0
	for _, n := range somePeers() {
		for _, bits := range liars {
			for _, chain := range []bool{false, true} {
				want, wantOk := plainClusterNew(n, chain, bits)
				if got, ok := impl.ClusterNew(n, chain, bits); ok != wantOk || !sameCluster(got, want) {
					t.Fatalf("ClusterNew(%d, %v, %d) = %+v, %v, want %+v, %v", n, chain, bits, got, ok, want, wantOk)
				}
				if wantOk {
					right++
				}
			}
		}
	}
	if right == 0 {
		t.Error("no cluster is made")
	}
	// By hand: how many may lie, whoever these are, and a bit that no replica has.
	for _, c := range []struct {
		n, liars int
		want     bool
	}{
		{0, 0, false}, {1, 0, true}, {1, 1, false}, {1, 2, false}, {2, 1, false}, {3, 0, true}, {3, 4, false}, {4, 0, true}, {4, 1, true}, {4, 8, true}, {4, 16, false}, {4, 3, false}, {4, 9, false},
		{6, 32, true}, {6, 33, false}, {6, 64, false}, {7, 0, true}, {7, 64, true}, {7, 96, true}, {7, 65, true}, {7, 67, false}, {7, 112, false}, {7, 127, false}, {7, 128, false}, {7, 129, false},
		{8, 0, false}, {8, 1, false}, {4, -1, false}, {7, -128, false}, {4, math.MinInt, false}, {7, math.MaxInt, false}, {math.MaxInt, 0, false}, {math.MinInt, 0, false}, {-4, 0, false},
	} {
		for _, chain := range []bool{false, true} {
			if got, ok := impl.ClusterNew(c.n, chain, c.liars); ok != c.want || !ok && !sameCluster(got, impl.Cluster{}) {
				t.Errorf("ClusterNew(%d, %v, %d) = %+v, %v", c.n, chain, c.liars, got, ok)
			}
		}
	}
	got := newCluster(t, 4, true, 2)
	want := impl.Cluster{N: 4, Chain: true, Liars: 2, Tree: impl.TreeNew(), Peers: []impl.Peer{impl.PeerNew(0), impl.PeerNew(1), impl.PeerNew(2), impl.PeerNew(3)}}
	if !sameCluster(got, want) {
		t.Errorf("ClusterNew(4, true, 2) = %+v", got)
	}
}

func TestLies(t *testing.T) {
	for n := 1; n <= impl.MaxPeers; n++ {
		for liars := range 1 << n {
			c := impl.Cluster{N: n, Liars: liars}
			for i := -2; i < 70; i++ {
				want := i >= 0 && i < n && strings.HasSuffix(strconv.FormatInt(int64(liars>>i), 2), "1")
				if impl.Lies(c, i) != want {
					t.Fatalf("of %d with %b: Lies(%d) is %v", n, liars, i, !want)
				}
			}
		}
	}
	// Any N, any Liars, any i; Peers are not asked.
	for _, n := range somePeers() {
		for _, liars := range append(fieldNumbers(), 127, 255, -256, 1<<62, 1<<32) {
			for _, i := range append(someBys(), n-1, n, n+1) {
				c := impl.Cluster{N: n, Liars: liars, Peers: ofViews(1, 1)}
				if got := impl.Lies(c, i); got != plainLies(c, i) {
					t.Fatalf("of %d with %d: Lies(%d) is %v", n, liars, i, got)
				}
			}
		}
	}
	// By hand: all bits of -1 are 1, but there is none behind the last one of a number.
	for i, want := range map[int]bool{-1: false, 0: true, 6: true, 63: true, 64: false, 99: false, 100: false, math.MinInt: false, math.MaxInt: false} {
		if impl.Lies(impl.Cluster{N: 100, Liars: -1}, i) != want {
			t.Errorf("of -1: Lies(%d) is %v", i, !want)
		}
	}
}

func TestOffer(t *testing.T) {
	c := newCluster(t, 4, false, 8)
	var all []impl.Cmd
	for i := range impl.MaxPending {
		x := []impl.Cmd{set("a", i), add("bc", i), take("zzz", impl.MaxNumber)}[i%3]
		all = append(all, x)
		want := c
		want.Pending = slices.Clone(all)
		for _, wrong := range wrongCmds() {
			holdRefused(t, c, offering(wrong))
		}
		c = holdMade(t, c, offering(x), want)
	}
	// There are MaxPending: neither a right one nor a wrong one goes in.
	holdRefused(t, c, offering(set("a", 1)), offering(all[0]), offering(impl.Cmd{}))
	c.Pending = c.Pending[:impl.MaxPending-1]
	after(t, c, offering(all[0]))
	c.Pending = slices.Repeat([]impl.Cmd{set("a", 1)}, impl.MaxPending+1)
	holdRefused(t, c, offering(set("a", 1)))
	for _, x := range rightCmds() {
		holdDeed(t, newCluster(t, 1, true, 0), offering(x))
	}
	// What is there already is not asked: wrong ones stay, and one may come twice.
	c.Pending = []impl.Cmd{{}, {Kind: -1, Key: "WRONG", Num: -5}}
	c = after(t, c, offering(set("a", 1)), offering(set("a", 1)))
	if len(c.Pending) != 4 || c.Pending[1].Key != "WRONG" {
		t.Errorf("Pending are %+v", c.Pending)
	}
}

func TestShowBlock(t *testing.T) {
	for _, chain := range []bool{false, true} {
		c := newCluster(t, 4, chain, 8)
		c = after(t, c, offering(set("a", 5)), offering(add("a", 1)))
		want := c
		b := impl.Block{View: 1, Cmds: []impl.Cmd{set("a", 5), add("a", 1)}}
		want.Tree = []impl.Block{first(), b}
		want.Peers = slices.Clone(c.Peers)
		want.Peers[0].Shown = 1
		want.Pending = nil
		// Those who lie are shown it, too.
		for to := range 4 {
			want.Net = append(want.Net, impl.Letter{Kind: impl.LtBlock, To: to, View: 1, Block: 1})
		}
		// Only 0 leads View 1.
		for _, i := range append(someBys(), 4, 5) {
			if i != 0 {
				holdRefused(t, c, showing(i))
			}
		}
		got := holdMade(t, c, showing(0), want)
		// It is shown once.
		for _, i := range append(someBys(), 4, 5) {
			holdRefused(t, got, showing(i))
		}
		// Without Cmds, too.
		c.Pending = nil
		want.Tree = []impl.Block{first(), {View: 1}}
		holdMade(t, c, showing(0), want)
		// Who lies shows nothing, who is not Ready does not, either.
		lying := c
		lying.Liars = 1
		holdRefused(t, lying, showing(0))
		later := withPeerAt(c, 0, impl.Peer{View: 2})
		holdRefused(t, later, showing(0))
		later.Peers[0].News = newsOf(2, 0, 2)
		holdRefused(t, later, showing(0))
		later.Peers[0].News = newsOf(3, 0, 2)
		after(t, later, showing(0))
		// With chain, High of the View just below does.
		later.Tree = got.Tree
		later.Peers[0] = impl.Peer{View: 2, High: signedQc(got.Tree, 4, impl.PhChain, 1)}
		if chain {
			after(t, later, showing(0))
		} else {
			holdRefused(t, later, showing(0))
		}
		// There is no room in the tree, or the highest Qc is of no block.
		full := c
		full.Tree = rowWith(impl.MaxBlocks)
		holdRefused(t, full, showing(0))
		full.Tree = rowWith(impl.MaxBlocks - 1)
		after(t, full, showing(0))
		holdRefused(t, withPeerAt(c, 0, impl.Peer{View: 1, High: impl.Qc{Block: 1}}), showing(0))
	}
}

// A block takes MaxCmds at most; the others wait, in their order.
func TestShowBlockTakesTheFirst(t *testing.T) {
	var all []impl.Cmd
	for i := range impl.MaxPending + 3 {
		all = append(all, set("a", i))
	}
	for size := range all {
		c := newCluster(t, 1, size%2 == 0, 0)
		c.Pending = all[:size]
		got := after(t, c, showing(0))
		count := min(size, impl.MaxCmds)
		if !slices.Equal(got.Tree[1].Cmds, all[:count]) || !slices.Equal(got.Pending, all[count:size]) {
			t.Fatalf("of %d Pending %v are shown, %v wait", size, got.Tree[1].Cmds, got.Pending)
		}
	}
	// One that is not right, among those that are taken, is shown by nobody; behind them it waits.
	for at := range 6 {
		for _, wrong := range wrongCmds()[:40] {
			c := newCluster(t, 4, false, 0)
			c.Pending = slices.Clone(all[:6])
			c.Pending[at] = wrong
			if at < impl.MaxCmds {
				holdRefused(t, c, showing(0))
			} else if got := after(t, c, showing(0)); !slices.Equal(got.Pending, c.Pending[4:]) {
				t.Fatalf("%v wait", got.Pending)
			}
		}
	}
}

// The Net has just room for all that is shown, or is as it was: one less is not enough.
func TestShowBlockRoom(t *testing.T) {
	for n := 1; n <= impl.MaxPeers; n++ {
		for count := 50; count < 64; count++ {
			c := withNet(newCluster(t, n, n%2 == 0, 0), someNews(count)...)
			c.Pending = []impl.Cmd{set("a", 1)}
			if count+n > impl.MaxNet {
				holdRefused(t, c, showing(0))
				continue
			}
			got := after(t, c, showing(0))
			if len(got.Net) != count+n || !slices.Equal(got.Net[:count], c.Net) || len(got.Pending) != 0 {
				t.Fatalf("among %d, behind %d letters: %+v", n, count, got)
			}
		}
	}
}

// A block that is there already is shown again: who fell does not know what it showed.
func TestShowBlockAgain(t *testing.T) {
	for _, chain := range []bool{false, true} {
		c := after(t, newCluster(t, 4, chain, 0), offering(set("a", 1)), showing(0), falling(0), offering(set("a", 1)))
		got := after(t, c, showing(0))
		if len(got.Tree) != 2 || len(got.Net) != 8 || !slices.Equal(got.Net[:4], got.Net[4:]) || len(got.Pending) != 0 {
			t.Errorf("the same block is shown again: %+v", got)
		}
		if got = after(t, c, offering(set("a", 2)), showing(0)); len(got.Tree) != 3 || len(got.Net) != 8 {
			t.Errorf("another block is shown: %+v", got)
		}
	}
}

func TestPost(t *testing.T) {
	letters := someNews(2 * impl.MaxNet)
	for _, there := range []int{0, 1, 2, 30, 58, 59, 60, 61, 62, 90} {
		c := withNet(newCluster(t, 4, true, 1), letters[:there]...)
		for _, more := range []int{0, 1, 2, 29, 30, 31, 58, 59, 60, 61, 62, 119} {
			list := letters[len(letters)-more:]
			if there+more > impl.MaxNet {
				holdRefused(t, c, posting(list...))
				continue
			}
			want := c
			want.Net = slices.Concat(letters[:there], list)
			holdMade(t, c, posting(list...), want)
		}
	}
	// Whatever they are: nobody asks whether they are right, or the same.
	c := newCluster(t, 4, false, 0)
	for _, l := range wildLetters() {
		got := after(t, c, posting(l), posting(l, l))
		if !slices.Equal(got.Net, []impl.Letter{l, l, l}) {
			t.Fatalf("Net is %+v", got.Net)
		}
	}
	// None at all: with the Net full it is well, with one more it is not.
	after(t, withNet(c, letters[:60]...), posting())
	holdRefused(t, withNet(c, letters[:61]...), posting())
	after(t, c, posting())
}

// By hand, in both ways: what one hears, says, and votes, and where that stands.
func TestCarryAt(t *testing.T) {
	for _, chain := range []bool{false, true} {
		c := after(t, newCluster(t, 4, chain, 8), offering(set("a", 5)), showing(0))
		phase := impl.PhOne
		if chain {
			phase = impl.PhChain
		}
		for to := range 4 {
			want := c
			want.Net = slices.Delete(slices.Clone(c.Net), to, to+1)
			if to < 3 {
				v := impl.Vote{Phase: phase, View: 1, Block: 1, By: to}
				p := c.Peers[to]
				p.Last = v
				if chain {
					p.View = 2
				}
				want = withPeerAt(want, to, p)
				want.Net = append(want.Net, impl.Letter{Kind: impl.LtVote, From: to, View: 1, Vote: v})
				want.Said = []impl.Vote{v}
			}
			holdMade(t, c, carrying(to), want)
		}
		// Places that are none.
		for _, k := range []int{math.MinInt, -2, -1, 4, 5, 60, math.MaxInt} {
			holdRefused(t, c, carrying(k), losing(k), doubling(k))
		}
		bare := newCluster(t, 4, chain, 8)
		for _, k := range []int{math.MinInt, -1, 0, 1, math.MaxInt} {
			holdRefused(t, bare, carrying(k), losing(k), doubling(k))
		}
	}
}

// What comes to those who lie goes: they hear nothing, say nothing, and are as they were.
func TestLettersToThoseWhoLie(t *testing.T) {
	for _, chain := range []bool{false, true} {
		for _, n := range []int{4, 5, 7} {
			tree := askTree(n)
			if chain {
				tree = chainTree(n)
			}
			for liar := range n {
				var letters []impl.Letter
				for k := 1; k < len(tree); k++ {
					letters = append(letters, shownTo(tree, n, k, liar), newsTo(1, liar, tree[k].View, impl.Qc{}))
					for phase := impl.PhOne; phase <= impl.PhChain; phase++ {
						letters = append(letters, enoughTo(tree, n, phase, k, liar), votedTo(tree, phase, k, (liar+1)%n, liar))
					}
				}
				for i, l := range append(letters, wildLetters()...) {
					l.To = liar
					c := newCluster(t, n, chain, 1<<liar)
					c.Tree = tree
					c.Said = votesOf(impl.PhOne, 1, 1, 1<<n-1-1<<liar)
					c.Pending = []impl.Cmd{set("a", 1)}
					// The one who lies could say much, if it were asked.
					c.Peers[liar] = impl.Peer{Id: liar, View: max(tree[1+i%(len(tree)-1)].View-i%2, 1), Votes: votesOf(1+i%4, l.View, l.Vote.Block, 1<<(n-1)-2)}
					for _, at := range []int{0, 3, 6} {
						c.Net = slices.Insert(someNews(6), at, l)
						want := c
						want.Net = someNews(6)
						holdMade(t, c, carrying(at), want)
					}
				}
			}
		}
	}
}

// A letter to nobody goes, too.
func TestLettersToNobody(t *testing.T) {
	for _, chain := range []bool{false, true} {
		full := after(t, newCluster(t, 4, chain, 0), showing(0))
		for _, to := range append(someBys(), 4, 5, 60) {
			for _, l := range full.Net {
				l.To = to
				c := withNet(full, l)
				if to < 0 || to > 3 {
					holdMade(t, c, carrying(0), withNet(c))
				} else {
					after(t, c, carrying(0))
				}
				// There are fewer Peers than N, or more.
				for count := range 6 {
					c.Peers = slices.Concat(full.Peers, ofViews(1, 1, 1, 1, 1, 1)[4:])[:count]
					if got := after(t, c, carrying(0)); (to < 0 || to >= min(count, 4)) && !sameCluster(got, withNet(c)) {
						t.Fatalf("with %d Peers a letter to %d is heard: %+v", count, to, got)
					}
					c.N = count
					after(t, c, carrying(0))
				}
			}
		}
		// A replica that is not the one of its place hears no letter to that place.
		c := withNet(full, full.Net[1])
		c = withPeerAt(c, 1, impl.PeerNew(2))
		holdMade(t, c, carrying(0), withNet(c))
	}
}

// A letter that is not right is heard by nobody, and goes.
func TestWrongLettersGo(t *testing.T) {
	for _, chain := range []bool{false, true} {
		c := newCluster(t, 4, chain, 8)
		c.Tree = askTree(4)
		if chain {
			c.Tree = chainTree(4)
		}
		for _, good := range rightLetters(c.Tree, 4) {
			for _, l := range turnedLetters(good) {
				if !plainLetterOk(c.Tree, 4, l) {
					holdMade(t, withNet(c, l), carrying(0), c)
				}
			}
		}
		for _, l := range wildLetters() {
			if !plainLetterOk(c.Tree, 4, l) {
				holdMade(t, withNet(c, l), carrying(0), c)
			}
		}
	}
}

// As much as has room is behind Net, in order; a vote is Said, whether its letter has room or not.
func TestCarryAtRoom(t *testing.T) {
	for _, n := range []int{1, 4, 7} {
		tree := askTree(n)
		enough := plainQuorum(n)
		// One vote more makes the leader say n letters.
		vote := votedTo(tree, impl.PhTwo, 2, enough-1, 0)
		c := newCluster(t, n, false, 0)
		c.Tree = tree
		c.Peers[0] = impl.Peer{View: 2, Votes: votesOf(impl.PhTwo, 2, 2, 1<<(enough-1)-1)}
		q := impl.Qc{Phase: impl.PhTwo, View: 2, Block: 2, Signers: 1<<enough - 1}
		all := saidToEach(n, 0, 2, q)
		shown := shownTo(tree, n, 1, n-1)
		for others := 48; others < 66; others++ {
			room := max(0, min(impl.MaxNet-others, n))
			for _, at := range []int{0, others / 2, others} {
				c.Net = slices.Insert(someNews(others), at, vote)
				got := after(t, c, carrying(at))
				if len(got.Said) != 0 || !slices.Equal(got.Net, slices.Concat(someNews(others), all[:room])) {
					t.Fatalf("among %d, %d letters: %+v", n, others, got.Net)
				}
				for _, chain := range []bool{false, true} {
					d := newCluster(t, n, chain, 0)
					d.Tree = tree
					d.Net = slices.Insert(someNews(others), at, shown)
					got := after(t, d, carrying(at))
					if len(got.Said) != 1 || got.Peers[n-1].Last != got.Said[0] || len(got.Net) != max(others, min(others+1, impl.MaxNet)) {
						t.Fatalf("among %d, %d letters, with chain %v: %+v", n, others, chain, got)
					}
				}
			}
		}
	}
}

// A vote that is in Said is there once; any other one is behind it.
func TestCarryAtSaid(t *testing.T) {
	for _, chain := range []bool{false, true} {
		c := after(t, newCluster(t, 4, chain, 1), posting())
		c.Tree = []impl.Block{first(), {View: 1}}
		c.Net = []impl.Letter{shownTo(c.Tree, 4, 1, 2)}
		phase := impl.PhOne
		if chain {
			phase = impl.PhChain
		}
		v := impl.Vote{Phase: phase, View: 1, Block: 1, By: 2}
		others := []impl.Vote{
			{Phase: phase%4 + 1, View: 1, Block: 1, By: 2}, {Phase: phase, View: 2, Block: 1, By: 2}, {Phase: phase, View: 1, Block: 2, By: 2}, {Phase: phase, View: 1, Block: 1, By: 1}, {},
		}
		for at := range len(others) + 1 {
			c.Said = slices.Insert(slices.Clone(others), at, v)
			if got := after(t, c, carrying(0)); !slices.Equal(got.Said, c.Said) || len(got.Net) != 1 {
				t.Fatalf("Said is %+v, was %+v", got.Said, c.Said)
			}
		}
		c.Said = others
		if got := after(t, c, carrying(0)); !slices.Equal(got.Said, slices.Concat(others, []impl.Vote{v})) {
			t.Fatalf("Said is %+v", got.Said)
		}
		// What was Said twice stays so.
		c.Said = []impl.Vote{v, v, others[0], others[0]}
		if got := after(t, c, carrying(0)); !slices.Equal(got.Said, c.Said) {
			t.Fatalf("Said is %+v", got.Said)
		}
	}
}

func TestLoseAtAndTwiceAt(t *testing.T) {
	for _, size := range []int{0, 1, 2, 3, 30, 58, 59, 60, 61, 64} {
		c := withNet(newCluster(t, 4, size%2 == 0, 2), someNews(size)...)
		for _, k := range []int{math.MinInt, -60, -1, 0, 1, size / 2, size - 2, size - 1, size, size + 1, 59, 60, 61, math.MaxInt} {
			if k < 0 || k >= size {
				holdRefused(t, c, losing(k), doubling(k), carrying(k))
				continue
			}
			want := c
			want.Net = slices.Delete(slices.Clone(c.Net), k, k+1)
			holdMade(t, c, losing(k), want)
			if size >= impl.MaxNet {
				holdRefused(t, c, doubling(k))
				continue
			}
			want.Net = append(slices.Clone(c.Net), c.Net[k])
			holdMade(t, c, doubling(k), want)
		}
	}
	// Those who lie, and letters that are not right, are no matter here.
	for _, l := range wildLetters() {
		c := withNet(newCluster(t, 4, false, 2), l)
		holdMade(t, c, losing(0), withNet(c))
		holdMade(t, c, doubling(0), withNet(c, l, l))
		l.To = 1
		c.Net[0] = l
		holdMade(t, c, losing(0), withNet(c))
		holdMade(t, c, doubling(0), withNet(c, l, l))
	}
}

func TestWaitOut(t *testing.T) {
	for _, n := range []int{1, 4, 7} {
		for _, chain := range []bool{false, true} {
			c := newCluster(t, n, chain, plainFaultBits(n))
			for i := range n {
				for _, view := range []int{1, 2, 3, 7, 27, impl.MaxView - 1, impl.MaxView, impl.MaxView + 1, math.MaxInt} {
					p := impl.Peer{Id: i, View: view, High: ofView(1, 1, 7), Last: impl.Vote{Phase: 1, View: 1, Block: 1, By: i}, News: newsOf(2, i, view)}
					for _, size := range []int{0, 1, 58, 59, 60, 61} {
						c := withNet(withPeerAt(c, i, p), someNews(size)...)
						if plainLies(c, i) || view >= impl.MaxView {
							holdRefused(t, c, waiting(i))
							continue
						}
						want := withPeerAt(c, i, begun(p, view+1))
						if size < impl.MaxNet {
							want.Net = append(someNews(size), newsTo(i, (view+1)/4%n, view+1, p.High))
						}
						holdMade(t, c, waiting(i), want)
					}
				}
			}
			for _, i := range append(someBys(), n, n+1) {
				if i < 0 || i >= n {
					holdRefused(t, c, waiting(i), falling(i), showing(i))
				}
			}
		}
	}
	// N that is none: nobody waits, though there are Peers.
	for _, n := range somePeers() {
		c := newCluster(t, 4, false, 0)
		c.N = n
		for i := range 4 {
			if n < 1 || n > impl.MaxPeers {
				holdRefused(t, c, waiting(i))
			} else {
				after(t, c, waiting(i))
			}
		}
	}
}

// plainFaultBits is one liar, the last one, where there may be any.
func plainFaultBits(n int) int {
	if n < 4 {
		return 0
	}
	return 1 << (n - 1)
}

func TestFallAt(t *testing.T) {
	tree := chainTree(4)
	for _, chain := range []bool{false, true} {
		c := newCluster(t, 4, chain, 2)
		c.Tree = tree
		c.Said = votesOf(impl.PhChain, 1, 1, 13)
		c.Net, c.Pending = someNews(3), []impl.Cmd{set("a", 1)}
		for i := range 4 {
			p := atRow(tree, 3, 5)
			p.Id, p.View, p.Shown = i, 4, 4
			p.High, p.Lock, p.Last = signedQc(tree, 4, impl.PhChain, 4), signedQc(tree, 4, impl.PhChain, 3), impl.Vote{Phase: impl.PhChain, View: 5, Block: 5, By: i}
			p.Votes, p.News = votesOf(impl.PhChain, 4, 4, 5), newsOf(2, i, 4)
			c := withPeerAt(c, i, p)
			if i == 1 {
				holdRefused(t, c, falling(i))
				continue
			}
			// What is too early, heard and Shown is gone; what it kept is not.
			want := impl.Peer{Id: i, View: 4, High: p.High, Lock: p.Lock, Last: p.Last, Row: []int{1, 2, 3}, Cells: plainRowCells(tree, p.Row)}
			holdMade(t, c, falling(i), withPeerAt(c, i, want))
			for other := range 4 {
				if other != 1 && other != i {
					if got := after(t, c, falling(other)); !samePeer(got.Peers[i], p) {
						t.Errorf("%d falls with %d", i, other)
					}
				}
			}
		}
		for _, i := range append(someBys(), 4, 5) {
			if i < 0 || i > 3 {
				holdRefused(t, c, falling(i))
			}
		}
		holdRefused(t, impl.Cluster{N: 4}, falling(0), waiting(0), showing(0))
	}
}

// givenTwice tells of two votes of one By, Phase and View, whatever their Blocks are.
func givenTwice(votes []impl.Vote) bool {
	seen := map[[3]int]bool{}
	for _, v := range votes {
		key := [3]int{v.By, v.Phase, v.View}
		if seen[key] {
			return true
		}
		seen[key] = true
	}
	return false
}

func below(a impl.Vote, b impl.Vote) bool {
	return a.View < b.View || a.View == b.View && a.Phase < b.Phase
}

// holdVotePromise is promise 15, of one deed.
func holdVotePromise(t *testing.T, was impl.Cluster, d deed, now impl.Cluster) {
	t.Helper()
	fault := func(what string) {
		t.Helper()
		t.Fatalf("%s: %s of\n%+v\nis\n%+v", what, d.what, was, now)
	}
	if len(now.Said) < len(was.Said) || !slices.Equal(now.Said[:len(was.Said)], was.Said) {
		fault("a vote that was given is changed")
	}
	more := now.Said[len(was.Said):]
	carried := strings.HasPrefix(d.what, "CarryAt")
	if givenTwice(now.Said) || plainSaidTwice(now.Said) {
		fault("one votes twice in a Phase and View")
	}
	if len(more) > 0 && !carried || len(more) > 1 {
		fault("a vote comes from nowhere")
	}
	for _, v := range more {
		if plainLies(now, v.By) || !plainVoteOk(now.Tree, now.N, v) {
			fault("a vote is not right, or of one who lies")
		}
		if !below(was.Peers[v.By].Last, v) || now.Peers[v.By].Last != v {
			fault("a vote is not the last one")
		}
	}
	for i, p := range now.Peers {
		last := was.Peers[i].Last
		if p.Last != last && (!carried || plainLies(now, i) || !below(last, p.Last)) {
			fault("the last vote is another one")
		}
		if p.Last != (impl.Vote{}) && !slices.Contains(now.Said, p.Last) {
			fault("a vote that was given is not Said")
		}
		if !plainPeerOk(now.Tree, now.N, p) {
			fault("a replica is not right")
		}
	}
}

// clusterLife is a drawn one, in which letters are lost, come twice and late, and some fall and lie.
type clusterLife struct {
	c      impl.Cluster
	draw   func(int) int
	counts map[string]int
}

func (h *clusterLife) does(t *testing.T, d deed) bool {
	t.Helper()
	was := h.c
	now, ok := holdDeed(t, was, d)
	holdVotePromise(t, was, d, now)
	if ok {
		h.counts[strings.Fields(d.what)[0]]++
		h.counts["said"] += len(now.Said) - len(was.Said)
	}
	h.c = now
	return ok
}

// lies puts in what those who lie may say: blocks beside one another, Qcs of votes that were given and their own, to some.
func (h *clusterLife) lies(t *testing.T) {
	var liars []int
	for i := range h.c.N {
		if plainLies(h.c, i) {
			liars = append(liars, i)
		}
	}
	if len(liars) == 0 {
		return
	}
	id, k := liars[h.draw(len(liars))], h.draw(len(h.c.Tree))
	phase := 1 + h.draw(3)
	if h.c.Chain {
		phase = impl.PhChain
	}
	view := h.c.Tree[k].View
	q := impl.Qc{Phase: phase, View: view, Block: k, Signers: plainSigners(h.c.Said, phase, view, k) | h.c.Liars}
	if k == 0 || plainCount(q.Signers) < plainQuorum(h.c.N) {
		q = impl.Qc{}
	}
	l := newsTo(id, 0, q.View+1+h.draw(6), q)
	switch h.draw(3) {
	case 0:
		view = q.View + 1 + h.draw(8)
		tree, at := plainPut(h.c.Tree, impl.Block{Parent: q.Block, View: view, Cmds: []impl.Cmd{set("x", h.draw(3))}, Just: q})
		if at > 0 && len(tree) < 50 {
			h.c.Tree = tree
			l = shownTo(tree, h.c.N, at, 0)
		}
	case 1:
		if q != (impl.Qc{}) {
			l = impl.Letter{Kind: impl.LtQc, From: id, View: q.View, Qc: q}
		} else if k > 0 {
			l = votedTo(h.c.Tree, phase, k, id, 0)
		}
	}
	if !plainLies(h.c, l.From) {
		return
	}
	for to := range h.c.N {
		if l.To = to; h.draw(2) == 0 && h.does(t, posting(l)) {
			h.counts["lies"]++
		}
	}
}

func (h *clusterLife) step(t *testing.T) {
	size, some := len(h.c.Net), h.draw(h.c.N)
	switch at := h.draw(100); {
	case at < 6:
		h.does(t, offering(set(string([]byte{byte('a' + h.draw(3))}), h.draw(100))))
	case at < 12 && size > 0:
		h.does(t, losing(h.draw(size)))
	case at < 22 && size > 0:
		h.does(t, doubling(h.draw(size)))
	case at < 26:
		h.does(t, falling(some))
	case at < 28 || size == 0:
		for i := range h.c.N {
			h.does(t, waiting(i))
		}
	case at < 30:
		h.does(t, waiting(some))
	case at < 36:
		h.lies(t)
	default:
		// Whichever it is: some come far too late.
		h.does(t, carrying(h.draw(size)))
	}
	for i := range h.c.N {
		h.does(t, showing(i))
	}
}

// Promise 15: what is lost, doubled or late changes no vote, whoever falls and whoever lies.
func TestWhatIsLostDoubledOrLateChangesNoVote(t *testing.T) {
	for _, chain := range []bool{false, true} {
		counts, rows := map[string]int{}, 0
		for seed := range uint32(70) {
			n := []int{4, 7, 4, 5, 1, 7, 2, 6, 3}[seed%9]
			liars := 0
			if seed%4 > 0 {
				for i := range (n - 1) / 3 {
					liars |= 1 << ((int(seed) + 2*i) % n)
				}
			}
			h := &clusterLife{newCluster(t, n, chain, liars), drawn(seed*953 + 11), counts}
			for range 260 {
				h.step(t)
			}
			for i, p := range h.c.Peers {
				if plainLies(h.c, i) {
					continue
				}
				rows += len(p.Row)
				for j, other := range h.c.Peers {
					if !plainLies(h.c, j) && !plainBeginning(p.Row, other.Row) && !plainBeginning(other.Row, p.Row) {
						t.Fatalf("seed %d: %d has %v, %d has %v", seed, i, p.Row, j, other.Row)
					}
				}
			}
		}
		for _, what := range []string{"Offer", "ShowBlock", "Post", "CarryAt", "LoseAt", "TwiceAt", "WaitOut", "FallAt", "said", "lies"} {
			if counts[what] < 300 {
				t.Errorf("with chain %v: only %d of %s", chain, counts[what], what)
			}
		}
		if rows < 50 {
			t.Errorf("with chain %v: only %d blocks go through", chain, rows)
		}
	}
}

// wellUsed are clusters of drawn lives, at many times.
func wellUsed(t *testing.T, chain bool, lives int, steps int) []impl.Cluster {
	var out []impl.Cluster
	for seed := range uint32(lives) {
		n := []int{4, 7, 1, 5}[seed%4]
		h := &clusterLife{newCluster(t, n, chain, plainFaultBits(n)), drawn(seed*947 + 5), map[string]int{}}
		for i := range steps {
			h.step(t)
			if i%7 == 0 {
				out = append(out, h.c)
			}
		}
	}
	return out
}

func lastVotes(c impl.Cluster) []impl.Vote {
	var out []impl.Vote
	for _, p := range c.Peers {
		out = append(out, p.Last)
	}
	return out
}

// Promise 15, letter by letter: one that is lost makes no vote, and one that comes twice or thrice makes no more than once.
func TestALetterThatComesTwiceIsHeardOnce(t *testing.T) {
	for _, chain := range []bool{false, true} {
		voted := 0
		for _, c := range wellUsed(t, chain, 40, 150) {
			if len(c.Net) > 50 {
				c.Net = c.Net[:50]
			}
			for k := range c.Net {
				if gone := after(t, c, losing(k)); !slices.Equal(gone.Said, c.Said) || !slices.Equal(lastVotes(gone), lastVotes(c)) {
					t.Fatalf("one that is lost makes a vote: %+v", gone)
				}
				once := after(t, c, carrying(k))
				if len(once.Said) > len(c.Said) {
					voted++
				}
				size := len(c.Net)
				twice := after(t, c, doubling(k), doubling(size), carrying(k))
				if !slices.Equal(twice.Said, once.Said) || !slices.Equal(twice.Net[:size+1], slices.Concat(c.Net[:k], c.Net[k+1:], []impl.Letter{c.Net[k], c.Net[k]})) {
					t.Fatalf("doubled, it is heard in another way: %+v", twice)
				}
				twice = after(t, twice, carrying(size-1), carrying(size-1))
				if !slices.Equal(twice.Said, once.Said) || !slices.Equal(lastVotes(twice), lastVotes(once)) {
					t.Fatalf("with chain %v: once %+v\nthrice %+v", chain, once, twice)
				}
			}
		}
		if voted < 200 {
			t.Errorf("with chain %v: only %d votes", chain, voted)
		}
	}
}

// Promise 15: a letter that comes when its View is past makes no vote.
func TestALateLetterMakesNoVote(t *testing.T) {
	for _, chain := range []bool{false, true} {
		late := 0
		for _, c := range wellUsed(t, chain, 40, 150) {
			for k, l := range c.Net {
				if plainLies(c, l.To) || l.Kind != impl.LtBlock && l.Kind != impl.LtQc {
					continue
				}
				waits := c
				for waits.Peers[l.To].View <= l.View {
					waits = after(t, waits, waiting(l.To))
				}
				got := after(t, waits, carrying(k))
				if !slices.Equal(got.Said, c.Said) || !slices.Equal(lastVotes(got), lastVotes(c)) {
					t.Fatalf("a late letter makes a vote: %+v", got)
				}
				late++
			}
		}
		if late < 300 {
			t.Errorf("with chain %v: only %d are late", chain, late)
		}
	}
}

// shownAgain carries all LtBlocks to these, who fall ahead of each one and behind it.
func shownAgain(t *testing.T, c impl.Cluster, from int, below int) impl.Cluster {
	t.Helper()
	for k := 0; k < len(c.Net); {
		l := c.Net[k]
		if l.Kind != impl.LtBlock || l.To < from || l.To >= below {
			k++
			continue
		}
		c = after(t, c, falling(l.To), carrying(k), falling(l.To))
	}
	return c
}

// Promise 15: who falls votes no more than once, though the same block comes again, and another one of that View.
func TestWhoFallsVotesNoMoreThanOnce(t *testing.T) {
	for _, chain := range []bool{false, true} {
		for n := 1; n <= impl.MaxPeers; n++ {
			for other := range 2 {
				c := after(t, newCluster(t, n, chain, 0), offering(set("a", 1)), showing(0))
				for range n - 1 {
					c = after(t, c, doubling(1), carrying(1))
				}
				said, last := c.Said, lastVotes(c)
				if len(said) != n-1 {
					t.Fatalf("with chain %v, among %d: %d votes", chain, n, len(said))
				}
				// The leader that fell does not know any more that it has shown a block.
				c = after(t, c, falling(0), offering(set("a", 1+other)), showing(0))
				if len(c.Tree) != 2+other {
					t.Fatalf("with chain %v, among %d: %d blocks", chain, n, len(c.Tree))
				}
				c = shownAgain(t, c, 1, n)
				if !slices.Equal(c.Said, said) || !slices.Equal(lastVotes(c), last) {
					t.Fatalf("with chain %v, among %d: %+v are Said, were %+v", chain, n, c.Said, said)
				}
				// The leader itself has not voted yet: it does so for the first one that comes.
				c = shownAgain(t, c, 0, 1)
				phase := impl.PhOne
				if chain {
					phase = impl.PhChain
				}
				if !slices.Equal(c.Said, append(slices.Clone(said), impl.Vote{Phase: phase, View: 1, Block: 1})) {
					t.Fatalf("with chain %v, among %d: %+v are Said, were %+v", chain, n, c.Said, said)
				}
			}
		}
	}
}

// wrongClusters have parts that do not fit one another.
func wrongClusters() []impl.Cluster {
	base, _ := plainClusterNew(4, false, 8)
	base.Tree = askTree(4)
	base.Net = rightLetters(base.Tree, 4)[:20]
	base.Said, base.Pending = someVotes(), []impl.Cmd{set("a", 1), add("b", 2)}
	numbers := fieldNumbers()
	var out []impl.Cluster
	for i, num := range append(numbers, -8, 9, 64, 65, 1000) {
		c := base
		c.N = num
		out = append(out, c)
		c.Liars = numbers[(i*5+1)%len(numbers)]
		out = append(out, c)
		c.N = 4
		out = append(out, c)
	}
	for count := range 10 {
		for _, n := range []int{1, 4, 7, 8} {
			c := base
			c.N, c.Peers = n, ofViews(1, 1, 2, 3, 4, 1, 1, 1, 1)[:min(count, 9)]
			out = append(out, c)
		}
	}
	for i, p := range wildPeers() {
		if len(p.Row) > 1000 && i%5 > 0 {
			continue
		}
		c := base
		c.Peers = []impl.Peer{p, impl.PeerNew(0), p, {Id: 2, View: p.View, High: p.High}}
		out = append(out, c)
	}
	for i, tree := range append(wrongTrees(), chainTree(4), hollowTree(), overTree(4), nil) {
		c := base
		c.Tree, c.Liars = tree, i%3
		out = append(out, c)
	}
	for i, l := range wildLetters() {
		c := base
		c.Net = slices.Concat([]impl.Letter{l}, someNews(i), []impl.Letter{l})
		out = append(out, c)
	}
	for _, size := range []int{8, 9, 59, 60, 61, 62, 200} {
		c := base
		c.Net, c.Pending = slices.Repeat(base.Net, 10)[:size], slices.Repeat([]impl.Cmd{set("a", 1)}, size)
		out = append(out, c)
		c.Pending = make([]impl.Cmd, size)
		out = append(out, c)
	}
	for i := range out {
		out[i].Chain = i%2 == 1
	}
	return append(out, impl.Cluster{}, impl.Cluster{N: math.MaxInt, Liars: math.MinInt, Chain: true}, impl.Cluster{N: 4, Peers: make([]impl.Peer, 4)})
}

// Each function answers as the chapter says, of everything, in both ways.
func TestClustersByTheWords(t *testing.T) {
	clusters := wrongClusters()
	for _, chain := range []bool{false, true} {
		for i, c := range wellUsed(t, chain, 12, 100) {
			clusters = append(clusters, c)
			// The other way, with others who lie, and with a Net that is nearly full.
			c.Chain, c.Liars = !chain, i%9
			c.Net = append(slices.Clone(c.Net), someNews(max(0, 58-len(c.Net)+i%4))...)
			clusters = append(clusters, c)
		}
	}
	done, refused := map[string]int{}, map[string]int{}
	for i, c := range clusters {
		deeds := []deed{offering(set("a", i)), offering(impl.Cmd{}), offering(add("ab", -1)), posting(), posting(wildLetters()[i%90]), posting(someNews(i % 70)...)}
		for at := -1; at < max(len(c.Net), 8)+1; at++ {
			if at < 9 || at > len(c.Net)-4 || at%5 == i%5 {
				deeds = append(deeds, deedsAt(at)...)
			}
		}
		for _, at := range []int{math.MinInt, math.MinInt + 1, 64, 1 << 32, math.MaxInt} {
			deeds = append(deeds, deedsAt(at)...)
		}
		for _, d := range deeds {
			if _, ok := holdDeed(t, c, d); ok {
				done[strings.Fields(d.what)[0]]++
			} else {
				refused[strings.Fields(d.what)[0]]++
			}
		}
		for _, at := range append(someBys(), c.N-1, c.N) {
			if impl.Lies(c, at) != plainLies(c, at) {
				t.Fatalf("Lies(%+v, %d) is %v", c, at, impl.Lies(c, at))
			}
		}
	}
	for _, what := range []string{"Offer", "ShowBlock", "Post", "CarryAt", "LoseAt", "TwiceAt", "WaitOut", "FallAt"} {
		if done[what] < 100 || refused[what] < 100 {
			t.Errorf("%s is done %d times, refused %d times", what, done[what], refused[what])
		}
	}
}

// span is a piece of memory.
type span struct {
	what      string
	from, end uintptr
}

func spanOf[T any](what string, list []T) span {
	var one T
	from := uintptr(unsafe.Pointer(unsafe.SliceData(list)))
	return span{what, from, from + uintptr(cap(list))*unsafe.Sizeof(one)}
}

func spansOfCmds(what string, cmds []impl.Cmd) []span {
	out := []span{spanOf(what, cmds)}
	for _, x := range cmds {
		out = append(out, textSpan("a key of "+what, x.Key))
	}
	return out
}

func textSpan(what string, s string) span {
	from := uintptr(unsafe.Pointer(unsafe.StringData(s)))
	return span{what, from, from + uintptr(len(s))}
}

// spansOf are all lists and texts of a cluster, with their spare room.
func spansOf(c impl.Cluster) []span {
	out := []span{spanOf("Tree", c.Tree), spanOf("Peers", c.Peers), spanOf("Net", c.Net), spanOf("Said", c.Said)}
	out = append(out, spansOfCmds("Pending", c.Pending)...)
	for _, b := range c.Tree {
		out = append(out, spansOfCmds("Cmds", b.Cmds)...)
	}
	for _, p := range c.Peers {
		out = append(out, spanOf("Row", p.Row), spanOf("Early", p.Early), spanOf("Cells", p.Cells), spanOf("Undos", p.Undos), spanOf("Votes", p.Votes), spanOf("News", p.News))
		for _, key := range keysOf(p.Cells, p.Undos) {
			out = append(out, textSpan("a key of a replica", key))
		}
	}
	return slices.DeleteFunc(out, func(s span) bool { return s.from == s.end })
}

// sharing tells of two that have memory in common, of which one at least is an answer's.
func sharing(answer []span, others []span) string {
	all := slices.Clone(answer)
	for _, s := range others {
		s.what = "an argument's " + s.what
		all = append(all, s)
	}
	slices.SortFunc(all, func(a span, b span) int { return int(a.from) - int(b.from) })
	for i, a := range all {
		for _, b := range all[i+1:] {
			if b.from >= a.end {
				break
			}
			if !strings.HasPrefix(a.what, "an argument's") || !strings.HasPrefix(b.what, "an argument's") {
				return a.what + " and " + b.what
			}
		}
	}
	return ""
}

// roomyCluster has spare room behind every list, in which something stands.
func roomyCluster(c impl.Cluster) impl.Cluster {
	_, c.Tree = roomyTree(c.Tree)
	var peers []impl.Peer
	for _, p := range c.Peers {
		peers = append(peers, ownMemory(p))
	}
	c.Peers = append(peers, impl.Peer{Id: -7}, impl.Peer{Id: -7})[:len(c.Peers)]
	c.Net = append(slices.Clone(c.Net), someNews(3)...)[:len(c.Net)]
	_, c.Said = roomyVotes(c.Said)
	c.Pending = roomyBlock(impl.Block{Cmds: c.Pending}).Cmds
	return c
}

// wholeCluster tells of a roomy one the spare room, too.
func wholeCluster(c impl.Cluster) impl.Cluster {
	c.Tree = wholeTree(c.Tree[:cap(c.Tree)])
	var peers []impl.Peer
	for _, p := range c.Peers[:cap(c.Peers)] {
		peers = append(peers, wholePeer(p))
	}
	c.Peers = peers
	c.Net, c.Said, c.Pending = slices.Clone(c.Net[:cap(c.Net)]), slices.Clone(c.Said[:cap(c.Said)]), slices.Clone(c.Pending[:cap(c.Pending)])
	return c
}

func soilCluster(c impl.Cluster) {
	soilTree(c.Tree)
	for i, p := range c.Peers {
		soilPeer(p)
		c.Peers[i] = impl.Peer{Id: -9}
	}
	soilLetters(c.Net)
	for i := range c.Said[:cap(c.Said)] {
		c.Said[:cap(c.Said)][i] = impl.Vote{Phase: -9}
	}
	soilCmds(c.Pending)
}

// memoryDeeds are such as are done, and such as are refused, whatever the cluster is.
func memoryDeeds(c impl.Cluster) []deed {
	deeds := []deed{offering(set("abc", 1)), offering(impl.Cmd{}), posting(), posting(someNews(3)...), posting(someNews(61)...)}
	for _, at := range []int{-1, 0, 1, 2, 3, len(c.Net) - 1, len(c.Net)} {
		deeds = append(deeds, deedsAt(at)...)
	}
	return deeds
}

func memoryClusters(t *testing.T) []impl.Cluster {
	out := []impl.Cluster{{}, {N: 4, Peers: hearers()[:4]}}
	for i, c := range slices.Concat(wellUsed(t, false, 4, 60), wellUsed(t, true, 4, 60), wrongClusters()) {
		if i%3 == 0 || len(c.Tree) > 5 && i%2 == 0 {
			out = append(out, c)
		}
	}
	for i, list := range [][]impl.Peer{hearers(), chainPeers()} {
		for from := 0; from+4 <= len(list); from += 3 {
			c, _ := plainClusterNew(4, i == 1, 0)
			c.Tree = [][]impl.Block{askTree(4), chainTree(4)}[i]
			c.Net, c.Said, c.Pending = rightLetters(c.Tree, 4)[from:from+20], someVotes()[from:], rightCmds()[from:from+5]
			for id := range 4 {
				p := list[from+id]
				p.Id = id
				c.Peers[id] = p
			}
			out = append(out, c)
		}
	}
	return out
}

// No argument is changed, nor the spare room behind it, nor is that room looked at; the answer's memory is its own, list by list.
func TestClustersOwnMemory(t *testing.T) {
	for _, c := range memoryClusters(t) {
		asked := roomyCluster(c)
		was, spans := wholeCluster(asked), spansOf(asked)
		for _, d := range memoryDeeds(c) {
			got, ok := d.done(asked)
			if want, wantOk := d.told(c); ok != wantOk || !sameCluster(got, want) {
				t.Fatalf("%s of\n%+v\nis\n%+v, %v, want\n%+v, %v", d.what, c, got, ok, want, wantOk)
			}
			if both := sharing(spansOf(got), spans); both != "" {
				t.Fatalf("%s (%v): %s share memory", d.what, ok, both)
			}
			soilCluster(got)
			if !sameCluster(wholeCluster(asked), was) {
				t.Fatalf("%s changes what was handed in:\n%+v, was\n%+v", d.what, wholeCluster(asked), was)
			}
		}
	}
}

// A command, and letters, that are handed in are copied, too.
func TestClustersKeepNoArgument(t *testing.T) {
	for _, chain := range []bool{false, true} {
		x := set(strings.Clone("abc"), 1)
		c := newCluster(t, 4, chain, 0)
		got, _ := impl.Offer(c, x)
		if both := sharing(spansOf(got), append(spansOf(c), textSpan("key", x.Key))); both != "" || got.Pending[0].Key != "abc" {
			t.Errorf("Offer: %s share memory", both)
		}
		list := append(someNews(3), newsTo(0, 0, 7, impl.Qc{}))[:3]
		got, _ = impl.Post(c, list)
		soilLetters(list[:0])
		if !slices.Equal(got.Net, someNews(3)) {
			t.Errorf("Post keeps the list: %+v", got.Net)
		}
		list = append(someNews(3), newsTo(0, 0, 7, impl.Qc{}))[:3]
		got, _ = impl.Post(c, list)
		soilLetters(got.Net)
		if !slices.Equal(list[:4], append(someNews(3), newsTo(0, 0, 7, impl.Qc{}))) {
			t.Errorf("Post changes the list: %+v", list)
		}
		// A cluster may be posted its own letters.
		c.Net = someNews(3)
		if got, ok := impl.Post(c, c.Net); !ok || !slices.Equal(got.Net, slices.Concat(someNews(3), someNews(3))) {
			t.Errorf("Post of its own letters: %+v", got.Net)
		}
		one, _ := impl.ClusterNew(7, chain, 3)
		other, _ := impl.ClusterNew(7, chain, 3)
		if both := sharing(spansOf(one), spansOf(other)); both != "" {
			t.Errorf("ClusterNew: %s share memory", both)
		}
	}
}

// Lists that are one and the same in an argument are not so in the answer.
func TestClustersOwnLists(t *testing.T) {
	cmds, letters, votes, row := []impl.Cmd{set("a", 1), add("b", 2)}, someNews(5), votesOf(impl.PhOne, 1, 1, 127), []int{1, 2, 3}
	cells, undos := []impl.Cell{{Key: "a", Num: 1}}, []impl.Undo{had("a", 1), gone("b")}
	p := impl.Peer{View: 1, Row: row[:2], Early: row, Cells: cells, Undos: undos, Votes: votes, News: letters}
	c := impl.Cluster{N: 4, Tree: []impl.Block{first(), {View: 1, Cmds: cmds}, {View: 2, Cmds: cmds[:1]}}, Peers: []impl.Peer{p, p, p, p}, Net: letters, Said: votes, Pending: cmds}
	for id := range c.Peers {
		c.Peers[id].Id = id
	}
	for _, chain := range []bool{false, true} {
		c.Chain = chain
		for _, d := range memoryDeeds(c) {
			got, _ := holdDeed(t, c, d)
			if both := sharing(spansOf(got), spansOf(c)); both != "" {
				t.Fatalf("%s: %s share memory", d.what, both)
			}
		}
	}
}

// Nothing is kept from one call to another.
func TestClustersAnswerTheSameEachTime(t *testing.T) {
	for _, c := range wellUsed(t, true, 3, 60) {
		for _, d := range memoryDeeds(c) {
			want, wantOk := d.done(c)
			for range 3 {
				if got, ok := d.done(c); ok != wantOk || !sameCluster(got, want) {
					t.Fatalf("%s is\n%+v, %v, was\n%+v, %v", d.what, got, ok, want, wantOk)
				}
			}
		}
	}
}

// Several may ask at the same time, of one cluster.
func TestClustersAtTheSameTime(t *testing.T) {
	for _, c := range wellUsed(t, false, 2, 40) {
		deeds := memoryDeeds(c)
		wrong := make(chan string, len(deeds))
		for _, d := range deeds {
			go func() {
				want, wantOk := d.told(c)
				if got, ok := d.done(c); ok != wantOk || !sameCluster(got, want) {
					wrong <- d.what
					return
				}
				wrong <- ""
			}()
		}
		for range deeds {
			if what := <-wrong; what != "" {
				t.Errorf("%s is another one", what)
			}
		}
	}
}

// The chapter 'Ways': a cluster stands under a mutex, given back by a deferred call: a struct has both, whatever its methods do is done under the lock, and each function that answers a cluster after another one reaches one of these.
func TestAClusterStandsUnderAMutex(t *testing.T) {
	file, err := parser.ParseFile(token.NewFileSet(), "../impl/l15_cluster.go", nil, 0)
	if err != nil {
		t.Fatal(err)
	}
	holder, mutex := mutexHolder(file)
	if holder == "" {
		t.Fatal("no struct has a mutex and a Cluster")
	}
	functions, locked := map[string]*ast.FuncDecl{}, map[string]bool{}
	for _, d := range file.Decls {
		f, ok := d.(*ast.FuncDecl)
		if !ok {
			continue
		}
		functions[f.Name.Name] = f
		if f.Recv == nil {
			continue
		}
		if of, ok := f.Recv.List[0].Type.(*ast.StarExpr); ok && of.X.(*ast.Ident).Name == holder {
			if !locksFirst(f, mutex) {
				t.Errorf("%s does not lock, and give back by a deferred call, ahead of all else", f.Name.Name)
			}
			locked[f.Name.Name] = true
		}
	}
	for _, from := range []string{"Offer", "ShowBlock", "Post", "CarryAt", "LoseAt", "TwiceAt", "WaitOut", "FallAt"} {
		reached, found := []string{from}, false
		for i := 0; i < len(reached); i++ {
			found = found || locked[reached[i]]
			ast.Inspect(functions[reached[i]], func(n ast.Node) bool {
				if name, ok := n.(*ast.Ident); ok && functions[name.Name] != nil && !slices.Contains(reached, name.Name) {
					reached = append(reached, name.Name)
				}
				return true
			})
		}
		if !found {
			t.Errorf("%s does nothing under the mutex", from)
		}
	}
}

// mutexHolder is the name of a struct that has a mutex and a Cluster, and that of its mutex.
func mutexHolder(file *ast.File) (holder string, mutex string) {
	ast.Inspect(file, func(n ast.Node) bool {
		spec, ok := n.(*ast.TypeSpec)
		if !ok {
			return true
		}
		fields, ok := spec.Type.(*ast.StructType)
		if !ok {
			return true
		}
		name, holds := "", false
		for _, f := range fields.Fields.List {
			switch of := f.Type.(type) {
			case *ast.SelectorExpr:
				if of.Sel.Name == "Mutex" || of.Sel.Name == "RWMutex" {
					name = f.Names[0].Name
				}
			case *ast.Ident:
				holds = holds || of.Name == "Cluster"
			}
		}
		if name != "" && holds {
			holder, mutex = spec.Name.Name, name
		}
		return true
	})
	return holder, mutex
}

// locksFirst tells whether a method begins with mutex.Lock() and defer mutex.Unlock().
func locksFirst(f *ast.FuncDecl, mutex string) bool {
	if len(f.Body.List) < 2 {
		return false
	}
	lock, ok := f.Body.List[0].(*ast.ExprStmt)
	if !ok {
		return false
	}
	call, ok := lock.X.(*ast.CallExpr)
	if !ok || !calledOn(call, mutex, "Lock") {
		return false
	}
	back, ok := f.Body.List[1].(*ast.DeferStmt)
	return ok && calledOn(back.Call, mutex, "Unlock")
}

func calledOn(call *ast.CallExpr, field string, method string) bool {
	of, ok := call.Fun.(*ast.SelectorExpr)
	if !ok || of.Sel.Name != method {
		return false
	}
	on, ok := of.X.(*ast.SelectorExpr)
	return ok && on.Sel.Name == field
}
