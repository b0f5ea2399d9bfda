package tests

import (
	"go/ast"
	"go/parser"
	"go/token"
	"math"
	"runtime"
	"slices"
	"strconv"
	"testing"
	"time"

	"loop.example/g00330/impl"
)

// The plain ones are the chapter's own words, sentence by sentence.
func plainDrain(c impl.Cluster, n int) impl.Cluster {
	for i := 0; i < n && i < 1000; i++ {
		next, ok := plainCarryAt(c, 0)
		if !ok {
			return c
		}
		c = next
	}
	return c
}

// plainHonest are the places of those who don't lie.
func plainHonest(c impl.Cluster) []int {
	var out []int
	for i := range c.Peers {
		if !plainLies(c, i) {
			out = append(out, i)
		}
	}
	return out
}

func plainCalmRound(c impl.Cluster) impl.Cluster {
	c = plainDrain(c, 400)
	shown := false
	for i := range c.Peers {
		if next, ok := plainShowBlock(c, i); ok {
			c, shown = next, true
		}
	}
	if shown {
		return plainDrain(c, 400)
	}
	var views []int
	for _, i := range plainHonest(c) {
		views = append(views, c.Peers[i].View)
	}
	for at, i := range plainHonest(c) {
		if views[at] == slices.Min(views) {
			c, _ = plainWaitOut(c, i)
		}
	}
	return plainDrain(c, 400)
}

func plainCalmRounds(c impl.Cluster, n int) impl.Cluster {
	for i := 0; i < n && i < 100; i++ {
		c = plainCalmRound(c)
	}
	return c
}

func plainLeastRow(c impl.Cluster) int {
	honest := plainHonest(c)
	if len(honest) == 0 {
		return 0
	}
	least := math.MaxInt
	for _, i := range honest {
		least = min(least, len(c.Peers[i].Row))
	}
	return least
}

// A calm deed is never refused.
func calmDeed(what string, done func(impl.Cluster) impl.Cluster, told func(impl.Cluster) impl.Cluster) deed {
	return deed{what,
		func(c impl.Cluster) (impl.Cluster, bool) { return done(c), true },
		func(c impl.Cluster) (impl.Cluster, bool) { return told(c), true }}
}

func draining(n int) deed {
	return calmDeed("Drain "+strconv.Itoa(n),
		func(c impl.Cluster) impl.Cluster { return impl.Drain(c, n) },
		func(c impl.Cluster) impl.Cluster { return plainDrain(c, n) })
}

func calming() deed { return calmDeed("CalmRound", impl.CalmRound, plainCalmRound) }

func calmingRounds(n int) deed {
	return calmDeed("CalmRounds "+strconv.Itoa(n),
		func(c impl.Cluster) impl.Cluster { return impl.CalmRounds(c, n) },
		func(c impl.Cluster) impl.Cluster { return plainCalmRounds(c, n) })
}

func holdLeastRow(t *testing.T, c impl.Cluster, want int) {
	t.Helper()
	if got := impl.LeastRow(c); got != want {
		t.Fatalf("LeastRow of\n%+v\nis %d, want %d", c, got, want)
	}
}

// lettersTo are so many letters to one, no two of them alike.
func lettersTo(to int, count int) []impl.Letter {
	out := someNews(count)
	for i := range out {
		out[i].To = to
	}
	return out
}

func viewsOf(c impl.Cluster) []int {
	var out []int
	for _, p := range c.Peers {
		out = append(out, p.View)
	}
	return out
}

func holdViews(t *testing.T, c impl.Cluster, want ...int) {
	t.Helper()
	if got := viewsOf(c); !slices.Equal(got, want) {
		t.Fatalf("Views are %v, want %v: %+v", got, want, c)
	}
}

// inViews is a cluster of four whose replicas are in these Views, and know nothing else.
func inViews(t *testing.T, chain bool, liars int, views ...int) impl.Cluster {
	t.Helper()
	c := newCluster(t, 4, chain, 0)
	c.Liars = liars
	for i, view := range views {
		c.Peers[i].View = view
	}
	return c
}

// So many are carried as n tells, as long as there are some, and 1000 at most; letters to one who lies call forth none.
func TestDrain(t *testing.T) {
	for _, size := range []int{0, 1, 2, 3, 59, 60, 61, 399, 400, 401, 999, 1000, 1001, 1002, 1300} {
		c := withNet(newCluster(t, 4, size%2 == 0, 8), lettersTo(3, size)...)
		for _, n := range []int{math.MinInt, -1000, -1, 0, 1, 2, 60, size - 1, size, size + 1, 400, 998, 999, 1000, 1001, 1002, 5000, 1 << 32, math.MaxInt - 1, math.MaxInt} {
			count := min(max(n, 0), 1000, size)
			holdMade(t, c, draining(n), withNet(c, c.Net[count:]...))
		}
	}
	// Twice is as far as both together.
	c := withNet(newCluster(t, 4, true, 8), lettersTo(3, 1700)...)
	c = impl.Drain(impl.Drain(c, math.MaxInt), math.MaxInt)
	if len(c.Net) != 0 {
		t.Errorf("%d are left", len(c.Net))
	}
}

// Letters that call forth others: the Net is not empty till the last one has come, and each n ends where so many CarryAt 0 do.
func TestDrainOfLettersThatCallForthOthers(t *testing.T) {
	for _, chain := range []bool{false, true} {
		for n := 1; n <= impl.MaxPeers; n++ {
			for _, liars := range someLiars(n) {
				if plainLies(impl.Cluster{N: n, Liars: liars}, 0) {
					continue
				}
				c := after(t, newCluster(t, n, chain, liars), offering(set("a", 1)), showing(0))
				d, count := c, 0
				for len(d.Net) > 0 {
					holdMade(t, c, draining(count), d)
					d, _ = impl.CarryAt(d, 0)
					count++
				}
				if count <= n {
					t.Fatalf("with chain %v, among %d: %d letters call forth none", chain, n, count)
				}
				for _, more := range []int{0, 1, 2, 100, 1000, 1001, math.MaxInt - count} {
					holdMade(t, c, draining(count+more), d)
				}
			}
		}
	}
}

// What is said finds room behind those that still wait, and no more than that.
func TestDrainRoom(t *testing.T) {
	for _, chain := range []bool{false, true} {
		for _, n := range []int{1, 4, 7} {
			c := after(t, newCluster(t, n, chain, 0), showing(0))
			// Each vote calls forth a letter to each.
			shown, waits := c.Net, lettersTo(n-1, 70)
			for _, others := range []int{60 - n, 61 - n, 58, 59, 60, 61, 64} {
				for _, net := range [][]impl.Letter{
					slices.Concat(shown, waits[:others]), slices.Concat(waits[:others], shown), slices.Concat(shown, waits[:others], shown), slices.Concat(waits[:others/2], shown, waits[others/2:others]),
				} {
					want := withNet(c, net...)
					for count := range 150 {
						if count < 10 || count%7 == 0 {
							holdMade(t, withNet(c, net...), draining(count), want)
						}
						want, _ = impl.CarryAt(want, 0)
					}
				}
			}
		}
	}
}

// A round of nothing but waiting: nobody is Ready, and no letter comes.
func TestCalmRoundOfThoseWhoWait(t *testing.T) {
	for _, chain := range []bool{false, true} {
		for _, r := range []struct {
			what  string
			liars int
			views []int
			want  []int
		}{
			{"alike", 0, []int{2, 2, 2, 2}, []int{3, 3, 3, 3}},
			{"alike, and one lies", 8, []int{2, 2, 2, 2}, []int{3, 3, 3, 2}},
			{"one is behind", 0, []int{5, 5, 2, 5}, []int{5, 5, 3, 5}},
			{"one is ahead", 0, []int{2, 2, 2, 9}, []int{3, 3, 3, 9}},
			{"two are behind", 0, []int{7, 2, 2, 9}, []int{7, 3, 3, 9}},
			{"the first and the last one are behind", 0, []int{2, 6, 7, 2}, []int{3, 6, 7, 3}},
			{"just one behind: it does not go on to the next one's", 0, []int{2, 3, 3, 3}, []int{3, 3, 3, 3}},
			{"all apart", 0, []int{9, 3, 6, 2}, []int{9, 3, 6, 3}},
			{"all apart, the least first", 0, []int{2, 9, 3, 6}, []int{3, 9, 3, 6}},
			{"who is behind lies", 4, []int{5, 6, 2, 6}, []int{6, 6, 2, 6}},
			{"who is ahead lies", 1, []int{9, 2, 3, 2}, []int{9, 3, 3, 3}},
			{"who is alike lies", 2, []int{2, 2, 3, 5}, []int{3, 2, 3, 5}},
			{"one alone does not lie", 13, []int{2, 30, 2, 2}, []int{2, 31, 2, 2}},
			{"nobody but liars", 15, []int{2, 2, 3, 4}, []int{2, 2, 3, 4}},
			{"nobody but liars, one of them could show a block", 15, []int{1, 1, 1, 1}, []int{1, 1, 1, 1}},
			{"Views of 0 and below", 0, []int{0, -1, -1, -5}, []int{0, -1, -1, -4}},
			{"just ahead of the last View", 0, []int{899, 899, 900, 900}, []int{900, 900, 900, 900}},
			{"the last View", 0, []int{900, 900, 900, 900}, []int{900, 900, 900, 900}},
			{"the last View, one lies", 8, []int{900, 900, 900, 1}, []int{900, 900, 900, 1}},
			{"behind the last View", 0, []int{901, 900, 950, 900}, []int{901, 900, 950, 900}},
			{"the greatest and the least number", 0, []int{math.MaxInt, math.MinInt, 3, 4}, []int{math.MaxInt, math.MinInt + 1, 3, 4}},
		} {
			c := inViews(t, chain, r.liars, r.views...)
			// The letters come to the leader of each View, but call forth nothing.
			got := after(t, c, calming())
			holdViews(t, got, r.want...)
			if len(got.Net) != 0 || len(got.Tree) != 1 || len(got.Said) != 0 {
				t.Errorf("%s: %+v", r.what, got)
			}
			for i, p := range got.Peers {
				for _, l := range p.News {
					if c.Peers[l.From].View != p.View-1 || plainLies(c, i) || plainLies(c, l.From) {
						t.Errorf("%s: %d hears of %+v", r.what, i, l)
					}
				}
			}
		}
	}
	// No Peers, and N that is none.
	for _, c := range []impl.Cluster{{}, {N: 4, Tree: impl.TreeNew()}, {N: 4, Liars: 3, Chain: true}, {Peers: ofViews(1, 1)}, {N: 8, Tree: impl.TreeNew(), Peers: ofViews(2, 2)}} {
		holdMade(t, c, calming(), c)
		holdMade(t, c, calmingRounds(100), c)
	}
}

// A leader who is Ready shows its block, which comes to all; nobody waits then, whoever is behind.
func TestCalmRoundOfALeader(t *testing.T) {
	for _, chain := range []bool{false, true} {
		c := after(t, newCluster(t, 4, chain, 8), offering(set("a", 5)))
		got := after(t, c, calming())
		// By hand: 0 to 2 vote, and 3 lies.
		if len(got.Tree) != 2 || len(got.Net) != 0 || len(got.Pending) != 0 || got.Peers[0].Shown != 1 {
			t.Fatalf("with chain %v: %+v", chain, got)
		}
		if chain {
			holdViews(t, got, 2, 2, 2, 1)
			holdLeastRow(t, got, 0)
			if len(got.Said) != 3 || got.Peers[0].High != signedBy(got.Tree, impl.PhChain, 1, 7) {
				t.Errorf("asked once: %+v", got)
			}
		} else {
			holdViews(t, got, 2, 2, 2, 1)
			holdLeastRow(t, got, 1)
			if len(got.Said) != 9 || got.Peers[2].Cells[0].Num != 5 || got.Peers[0].High != signedBy(got.Tree, impl.PhOne, 1, 7) {
				t.Errorf("asked three times: %+v", got)
			}
		}
		// With one that is Ready nobody waits, though one is behind all others, and hears nothing.
		c = inViews(t, chain, 0, 4, 4, 4, 1)
		c.Peers[1].News = newsOf(3, 1, 4)
		c.Net = lettersTo(3, 4)
		got = after(t, c, calming())
		if len(got.Tree) != 2 || got.Tree[1].View != 4 {
			t.Fatalf("with chain %v: %+v", chain, got)
		}
		holdViews(t, got, 5, 5, 5, 5)
		// One fewer News: nobody is Ready, and the last one waits, alone.
		c.Peers[1].News = newsOf(2, 1, 4)
		holdViews(t, after(t, c, calming()), 4, 4, 4, 2)
		// It has shown its View already.
		c.Peers[1].News, c.Peers[1].Shown = newsOf(3, 1, 4), 4
		holdViews(t, after(t, c, calming()), 4, 4, 4, 2)
		// The leader lies: it shows nothing, though it is Ready.
		c.Peers[1].Shown, c.Liars = 0, 2
		holdViews(t, after(t, c, calming()), 4, 4, 4, 2)
		c = inViews(t, chain, 1, 1, 1, 1, 1)
		got = after(t, c, calming())
		holdViews(t, got, 1, 2, 2, 2)
		if len(got.Tree) != 1 {
			t.Errorf("who lies shows a block: %+v", got)
		}
		// The letters that are there come first: by them the leader is Ready.
		c = inViews(t, chain, 0, 4, 4, 4, 4)
		c.Net = newsOf(3, 1, 4)
		got = after(t, c, calming())
		if len(got.Tree) != 2 {
			t.Errorf("what it hears does not make it Ready: %+v", got)
		}
		holdViews(t, got, 5, 5, 5, 5)
	}
}

// Several may be Ready in one round, each one of its own View; all of them show a block, in order, each with the first Pending that are left.
func TestCalmRoundOfSeveralWhoShow(t *testing.T) {
	for _, chain := range []bool{false, true} {
		c := inViews(t, chain, 0, 1, 4, 8, 12)
		for i := 1; i < 4; i++ {
			c.Peers[i].News = newsOf(3, i, 4*i)
		}
		for i := range impl.MaxPending {
			c = after(t, c, offering(set("a", i)))
		}
		got := after(t, c, calming())
		var views, cmds []int
		for _, b := range got.Tree[1:] {
			views, cmds = append(views, b.View), append(cmds, len(b.Cmds))
		}
		if !slices.Equal(views, []int{1, 4, 8, 12}) || !slices.Equal(cmds, []int{4, 4, 0, 0}) || len(got.Pending) != 0 {
			t.Fatalf("with chain %v: blocks of %v with %v: %+v", chain, views, cmds, got)
		}
		// Those who lie show none of theirs.
		for liars := range 16 {
			c.Liars = liars
			got := after(t, c, calming())
			views = nil
			for _, b := range got.Tree[1:] {
				views = append(views, b.View)
			}
			var want []int
			for i, view := range []int{1, 4, 8, 12} {
				if liars>>i&1 == 0 {
					want = append(want, view)
				}
			}
			if !slices.Equal(views, want) {
				t.Fatalf("with chain %v and liars %b: blocks of %v", chain, liars, views)
			}
		}
		// The Net has no room for a third one.
		c = inViews(t, chain, 0, 1, 4, 8, 12)
		for i := 1; i < 4; i++ {
			c.Peers[i].News = newsOf(3, i, 4*i)
		}
		for size := 448; size < 464; size++ {
			c.Net = slices.Repeat([]impl.Letter{{}}, size)
			got := after(t, c, calming())
			if want := max(0, min(4, (460-size)/4)); len(got.Tree) != 1+want {
				t.Fatalf("with chain %v, behind %d letters: %d blocks", chain, size, len(got.Tree)-1)
			}
		}
	}
}

// 400 letters come ahead of the blocks, and 400 behind them.
func TestCalmRoundCarriesSoMany(t *testing.T) {
	for _, chain := range []bool{false, true} {
		for _, size := range []int{398, 399, 400, 401, 455, 456, 457, 459, 460, 461, 798, 799, 800, 801, 802, 900, 1200} {
			c := withNet(newCluster(t, 4, chain, 8), lettersTo(3, size)...)
			got := after(t, c, calming())
			shown, left := size+4 <= 400+impl.MaxNet, max(0, size-800)
			if (len(got.Tree) == 2) != shown || len(got.Net) != left || !slices.Equal(got.Net, c.Net[size-left:]) {
				t.Fatalf("with chain %v, behind %d letters: %+v", chain, size, got)
			}
			if !shown {
				// They wait, also without room for the letter that tells so.
				holdViews(t, got, 2, 2, 2, 1)
			}
		}
	}
}

// Without room in the tree nobody shows a block: Views go by, and nothing else.
func TestCalmRoundWithoutRoomInTheTree(t *testing.T) {
	for _, chain := range []bool{false, true} {
		for size, want := range map[int]int{impl.MaxBlocks - 1: 1, impl.MaxBlocks: 0, impl.MaxBlocks + 1: 0, impl.MaxBlocks + 7: 0} {
			c := newCluster(t, 4, chain, 8)
			c.Tree = unsigned(size)
			got := after(t, c, calming())
			if len(got.Tree)-size != want || (len(got.Said) > 0) != (want > 0) {
				t.Fatalf("with chain %v, of %d blocks: %+v", chain, size, got)
			}
			holdViews(t, got, 2, 2, 2, 1)
			got = impl.CalmRounds(got, 50)
			if len(got.Tree)-size != want || got.Peers[0].View < 40 {
				t.Fatalf("with chain %v, of %d blocks: %+v", chain, size, got)
			}
		}
		// A block that can not be shown at all, since its commands are not right, lets those who wait go on.
		c := newCluster(t, 4, chain, 0)
		c.Pending = []impl.Cmd{{}}
		holdViews(t, after(t, c, calming()), 2, 2, 2, 2)
	}
}

// So many rounds, 100 at most: a full tree lets one View go by in each round.
func TestCalmRounds(t *testing.T) {
	for _, chain := range []bool{false, true} {
		c := newCluster(t, 4, chain, 8)
		c.Tree = unsigned(impl.MaxBlocks)
		rounds := []impl.Cluster{c}
		for len(rounds) <= 101 {
			rounds = append(rounds, impl.CalmRound(rounds[len(rounds)-1]))
		}
		holdViews(t, rounds[100], 101, 101, 101, 1)
		for _, n := range []int{math.MinInt, -100, -2, -1, 0, 1, 2, 3, 50, 98, 99, 100, 101, 102, 200, 1000, 1 << 32, math.MaxInt} {
			holdMade(t, c, deed{"CalmRounds " + strconv.Itoa(n), calmingRounds(n).done, nil}, rounds[min(max(n, 0), 100)])
		}
		// With room in it, too.
		c = newCluster(t, 4, chain, 1)
		want := c
		for n := range 14 {
			holdMade(t, c, calmingRounds(n), want)
			want = impl.CalmRound(want)
		}
		// The Views end at MaxView.
		c = inViews(t, chain, 8, impl.MaxView-30, impl.MaxView-20, impl.MaxView-25, 7)
		c.Tree = unsigned(impl.MaxBlocks)
		holdViews(t, impl.CalmRounds(c, 100), impl.MaxView, impl.MaxView, impl.MaxView, 7)
	}
}

// By hand: what so many rounds let through, without liars, and when the leader of the first Views lies.
func TestCalmRoundsLetSoManyThrough(t *testing.T) {
	for _, r := range []struct {
		chain  bool
		liars  int
		rounds int
		want   int
	}{
		// Asked three times: one in each round.
		{false, 0, 0, 0}, {false, 0, 1, 1}, {false, 0, 2, 2}, {false, 0, 20, 20}, {false, 0, 58, 58}, {false, 0, 59, 59}, {false, 0, 60, 59}, {false, 0, 100, 59},
		{false, 8, 11, 11},
		// 0 leads the Views 1 to 3: these are waited out.
		{false, 1, 3, 0}, {false, 1, 4, 1}, {false, 1, 5, 2},
		// Asked once: three more have to stand on it.
		{true, 0, 1, 0}, {true, 0, 3, 0}, {true, 0, 4, 1}, {true, 0, 5, 2}, {true, 0, 20, 17}, {true, 0, 59, 56}, {true, 0, 100, 56},
	} {
		c := impl.CalmRounds(newCluster(t, 4, r.chain, r.liars), r.rounds)
		if got := impl.LeastRow(c); got != r.want {
			t.Errorf("with chain %v, liars %b: %d rounds let %d through, want %d", r.chain, r.liars, r.rounds, got, r.want)
		}
	}
}

func TestLeastRow(t *testing.T) {
	tree := rowWith(40)
	hall := func(liars int, sizes ...int) impl.Cluster {
		c := impl.Cluster{N: len(sizes), Liars: liars, Tree: tree}
		for id, size := range sizes {
			c.Peers = append(c.Peers, impl.Peer{Id: id, View: 1, Row: plainRowTo(tree, size)})
		}
		return c
	}
	for _, r := range []struct {
		want  int
		liars int
		sizes []int
	}{
		{0, 0, nil}, {0, 0, []int{0}}, {7, 0, []int{7}}, {0, 1, []int{7}}, {0, 0, []int{0, 0, 0}},
		{0, 0, []int{3, 0, 5}}, {2, 0, []int{3, 2, 5}}, {3, 0, []int{3, 4, 5}}, {3, 0, []int{5, 4, 3}}, {4, 0, []int{4, 4, 4}},
		// Those who lie are not asked, be theirs short or long.
		{3, 2, []int{3, 0, 5}}, {5, 3, []int{3, 0, 5}}, {0, 7, []int{3, 1, 5}}, {0, 5, []int{3, 0, 5}}, {1, 4, []int{3, 1, 0}}, {9, 1, []int{2, 39, 9}},
		// A bit of nobody.
		{2, 8, []int{3, 2, 5}}, {2, -8, []int{3, 2, 5}}, {0, -1, []int{3, 2, 5}},
	} {
		holdLeastRow(t, hall(r.liars, r.sizes...), r.want)
	}
	// N that does not fit: who is of no place below N does not lie.
	c := hall(7, 3, 2, 5)
	for n, want := range map[int]int{math.MinInt: 2, -1: 2, 0: 2, 1: 2, 2: 5, 3: 0, 4: 0, 70: 0, math.MaxInt: 0} {
		c.N = n
		holdLeastRow(t, c, want)
	}
	// Early ones are not let through, and whatever stands in a Row is counted.
	c = hall(0, 3, 3)
	c.Peers[0].Early = []int{4, 5}
	c.Peers[1].Row = []int{-1, 900, 900, -1}
	holdLeastRow(t, c, 3)
	c.Peers[0].Row = nil
	holdLeastRow(t, c, 0)
}

// calmLife is a drawn one: letters are lost, come twice and late, some fall, some are far behind, and those who lie say whatever they may.
type calmLife struct {
	handLife
}

func newCalmLife(t *testing.T, seed uint32, chain bool) *calmLife {
	n := []int{4, 7, 5, 4, 6, 7, 1, 2, 3}[seed%9]
	liars := 0
	if n >= 4 && seed%5 > 0 {
		liars = 1 << (int(seed) % n)
		if n == 7 && seed%4 > 0 {
			liars |= 1 << ((int(seed) + 1 + int(seed)%6) % n)
		}
	}
	return &calmLife{handLife{clusterLife: clusterLife{newCluster(t, n, chain, liars), drawn(seed*967 + 13), nil}}}
}

// act does it, or not: chapters 15 and 16 have their own tests.
func (h *calmLife) act(d deed) { h.c, _ = d.done(h.c) }

func (h *calmLife) lieOfEach() {
	c := h.c
	for i := range c.N {
		if plainLies(c, i) {
			h.act(handing(h.lie(i)))
		}
	}
	q, _ := impl.LieQc(c, h.phase(), h.draw(len(c.Tree)))
	b := impl.Block{Parent: q.Block, View: plainView(c.Tree, q.Block) + 1 + h.draw(6), Cmds: []impl.Cmd{set("x", h.draw(4))}, Just: q}
	if c.Liars != 0 {
		h.act(handingBlock(b))
	}
}

func (h *calmLife) goesOn() {
	n, size := h.c.N, len(h.c.Net)
	switch at := h.draw(80); {
	case at < 4:
		h.act(offering(set("a", h.draw(9))))
	case at < 9:
		h.lieOfEach()
	case at < 11:
		h.act(falling(h.draw(n)))
	case at < 13 || size == 0:
		for i := range n {
			h.act(waiting(i))
		}
	case at < 16:
		i := h.draw(n)
		for range h.draw(8) {
			h.act(waiting(i))
		}
	case at < 26:
		h.act(losing(h.draw(size)))
	case at < 30:
		h.act(doubling(h.draw(size)))
	default:
		h.act(carrying(h.draw(min(size, 1+h.draw(30)))))
	}
	for i := range n {
		if h.draw(3) > 0 {
			h.act(showing(i))
		}
	}
}

// apart is how many Views who is ahead is above who is behind, of those who don't lie.
func apart(c impl.Cluster) int {
	var views []int
	for _, i := range plainHonest(c) {
		views = append(views, c.Peers[i].View)
	}
	return slices.Max(views) - slices.Min(views)
}

func allGrew(was impl.Cluster, now impl.Cluster) bool {
	return !slices.ContainsFunc(plainHonest(was), func(i int) bool { return len(now.Peers[i].Row) <= len(was.Peers[i].Row) })
}

// holdCalmPromise is promise 17: these rounds let the Row of each that does not lie grow, and go on in agreement.
func holdCalmPromise(t *testing.T, c impl.Cluster, rounds int) impl.Cluster {
	t.Helper()
	got := impl.CalmRounds(c, rounds)
	if !allGrew(c, got) {
		t.Fatalf("%d rounds after\n%+v\nsome Row has not grown:\n%+v", rounds, c, got)
	}
	if impl.LeastRow(got) <= impl.LeastRow(c) {
		t.Fatalf("LeastRow is %d, was %d", impl.LeastRow(got), impl.LeastRow(c))
	}
	for _, i := range plainHonest(c) {
		row := got.Peers[i].Row
		if !slices.Equal(row[:len(c.Peers[i].Row)], c.Peers[i].Row) {
			t.Fatalf("%d has %v, had %v", i, row, c.Peers[i].Row)
		}
		for _, j := range plainHonest(c) {
			if !plainBeginning(row, got.Peers[j].Row) && !plainBeginning(got.Peers[j].Row, row) {
				t.Fatalf("%d has %v, %d has %v", i, row, j, got.Peers[j].Row)
			}
		}
	}
	if plainSaidTwice(got.Said) {
		t.Fatalf("one votes twice: %+v", got)
	}
	return got
}

// Promise 17, after any life: when nobody who does not lie is far ahead of the others, blocks go through, and go on to do so.
func TestWhenAllIsWellBlocksGoThrough(t *testing.T) {
	for _, chain := range []bool{false, true} {
		most, counts := 0, map[string]int{}
		for seed := range uint32(450) {
			h := newCalmLife(t, seed, chain)
			for range 20 + seed*7%200 {
				if h.goesOn(); len(h.c.Tree) > 20 {
					break
				}
			}
			far := apart(h.c)
			if far > 12 {
				counts["too far"]++
				continue
			}
			most = max(most, far)
			if far > 6 {
				counts["far"]++
			}
			if plainLies(h.c, plainLeader(plainFarthest(h.c.Peers), h.c.N)) {
				counts["led by one who lies"]++
			}
			got := holdCalmPromise(t, h.c, 40)
			// Those who lie say nothing any more: the next ones go through, too.
			for len(got.Tree) < 40 {
				got = holdCalmPromise(t, got, 20)
				counts["again"]++
			}
			counts["lives"]++
		}
		for what, want := range map[string]int{"lives": 300, "far": 60, "led by one who lies": 40, "again": 200} {
			if counts[what] < want {
				t.Errorf("with chain %v: only %d of %s", chain, counts[what], what)
			}
		}
		if most != 12 {
			t.Errorf("with chain %v: at most %d Views apart", chain, most)
		}
	}
}

// Promise 17, from every View on: whoever lies and leads it, whoever is ahead, or behind, by 12 Views at most, and whether its letters come.
func TestBlocksGoThroughFromEveryView(t *testing.T) {
	for _, chain := range []bool{false, true} {
		for n := 1; n <= impl.MaxPeers; n++ {
			for at, liars := range someLiars(n) {
				// Of the sets of two some are enough.
				if plainCount(liars) > 1 && at%4 > 0 {
					continue
				}
				for view := 1; view <= 4*n+1; view++ {
					c := newCluster(t, n, chain, liars)
					for i := range n {
						// All letters but the last ones are lost.
						c.Peers[i].View = max(1, view-3)
						for range min(view-1, 3) {
							c, _ = impl.WaitOut(c, i)
						}
					}
					c.Net = c.Net[max(0, len(c.Net)-view%3*n):]
					honest := plainHonest(c)
					other := honest[view%len(honest)]
					far := []int{0, 12, 3, 5, 1, 12, 11, 7}[(view+at)%8]
					for _, i := range honest {
						// One is ahead of all, or all but one.
						if (i == other) == (view%2 == 0) {
							for range far {
								c, _ = impl.WaitOut(c, i)
							}
						}
					}
					if n > 1 && len(honest) > 1 && apart(c) != far {
						t.Fatalf("%d Views apart, want %d", apart(c), far)
					}
					holdCalmPromise(t, c, 40)
				}
			}
		}
	}
}

// Promise 17: a leader who lies shows nothing, and its Views are waited out; then the next one's blocks go through.
func TestViewsOfALeaderWhoLiesAreWaitedOut(t *testing.T) {
	for _, chain := range []bool{false, true} {
		for _, n := range []int{4, 5, 6, 7} {
			for liar := range n {
				c := newCluster(t, n, chain, 1<<liar)
				silent, last := 0, 0
				for range 45 {
					now := impl.CalmRound(c)
					led := plainLies(c, plainLeader(plainFarthest(c.Peers), n))
					if blocks := len(now.Tree) - len(c.Tree); led && blocks != 0 {
						t.Fatalf("among %d: %d lies, and leads, and %d blocks are shown", n, liar, blocks)
					}
					if led {
						silent++
					}
					if apart(now) > 0 {
						t.Fatalf("among %d, who lies is %d: Views are %v", n, liar, viewsOf(now))
					}
					c = now
					last = impl.LeastRow(c)
				}
				if silent == 0 || last < 10 {
					t.Errorf("with chain %v, among %d, who lies is %d: %d silent rounds, %d go through", chain, n, liar, silent, last)
				}
			}
		}
	}
}

// A block goes through as long as the tree has room, and none is lost when it has none any more.
func TestBlocksGoThroughTillTheTreeIsFull(t *testing.T) {
	for _, chain := range []bool{false, true} {
		for _, n := range []int{1, 4, 7} {
			c := newCluster(t, n, chain, plainFaultBits(n))
			for i := 0; len(c.Tree) < impl.MaxBlocks; i++ {
				c, _ = impl.Offer(c, set("a", i))
				next := impl.CalmRounds(c, 4*n)
				// As long as there is room for all that one may need.
				if len(c.Tree) < impl.MaxBlocks-8 && !allGrew(c, next) {
					t.Fatalf("with chain %v, among %d, of %d blocks none goes through: %+v", chain, n, len(c.Tree), next)
				}
				c = next
			}
			full := impl.CalmRounds(c, 20)
			if len(full.Tree) != impl.MaxBlocks || impl.LeastRow(full) < impl.LeastRow(c) || impl.LeastRow(c) < 40 {
				t.Errorf("with chain %v, among %d: %d go through", chain, n, impl.LeastRow(full))
			}
			if !plainTreeOk(full.Tree) {
				t.Errorf("with chain %v, among %d: the tree is not right", chain, n)
			}
		}
	}
}

// Each function answers as the chapter says, of everything, in both ways.
func TestCalmByTheWords(t *testing.T) {
	clusters := append(wrongClusters(), handHall(), allGave(t, letterTree(7), 7, 3), allGave(t, hollowTree(), 4, 2))
	for _, chain := range []bool{false, true} {
		for i, c := range wellUsed(t, chain, 10, 100) {
			clusters = append(clusters, c)
			// The other way, with others who lie, and with a Net that is nearly full.
			c.Chain, c.Liars = !chain, i%9
			c.Net = append(slices.Clone(c.Net), lettersTo(i%5, max(0, 58-len(c.Net)+i%4))...)
			clusters = append(clusters, c)
		}
	}
	counts := map[string]int{}
	for i, c := range clusters {
		holdLeastRow(t, c, plainLeastRow(c))
		counts["rows"] += min(plainLeastRow(c), 1)
		for _, n := range []int{math.MinInt, 0, 1 + i%3, 10 + i%50, len(c.Net) - 1, len(c.Net), len(c.Net) + 1, 1000 + i%2} {
			got, _ := holdDeed(t, c, draining(n))
			counts["carried"] += min(max(n, 0), len(c.Net))
			counts["said"] += len(got.Said) - len(c.Said)
		}
		got, _ := holdDeed(t, c, calming())
		counts["shown"] += len(got.Tree) - len(c.Tree)
		if len(got.Tree) == len(c.Tree) && !slices.Equal(viewsOf(got), viewsOf(c)) {
			counts["waited"]++
		}
		if i%3 == 0 {
			holdDeed(t, c, calmingRounds(2+i%5))
		}
	}
	for what, want := range map[string]int{"rows": 40, "carried": 10000, "said": 300, "shown": 80, "waited": 80} {
		if counts[what] < want {
			t.Errorf("only %d of %s", counts[what], what)
		}
	}
}

// Many rounds always end, of whatever cluster.
func TestCalmRoundsEnd(t *testing.T) {
	for i, c := range wrongClusters() {
		if i%5 > 0 {
			continue
		}
		want := c
		for range 10 {
			want = impl.CalmRounds(want, 10)
		}
		for _, n := range []int{100, math.MaxInt}[:1+i/5%2] {
			if got := impl.CalmRounds(c, n); !sameCluster(got, want) {
				t.Fatalf("CalmRounds of\n%+v\n%d is\n%+v, want\n%+v", c, n, got, want)
			}
		}
	}
}

func calmDeeds(c impl.Cluster) []deed {
	return []deed{draining(-1), draining(0), draining(1), draining(5), draining(len(c.Net)), draining(1001), calming(), calmingRounds(-1), calmingRounds(0), calmingRounds(1), calmingRounds(3)}
}

// No argument is changed, nor the spare room behind it, nor is that room looked at; the answer's memory is its own, list by list.
func TestCalmOwnMemory(t *testing.T) {
	for i, c := range append([]impl.Cluster{handHall(), allGave(t, letterTree(4), 4, 8)}, memoryClusters(t)...) {
		// Some of each kind are enough.
		if i > 1 && i%2 > 0 {
			continue
		}
		asked := roomyCluster(c)
		was, spans := wholeCluster(asked), spansOf(asked)
		for _, d := range calmDeeds(c) {
			got, _ := d.done(asked)
			if want, _ := d.told(c); !sameCluster(got, want) {
				t.Fatalf("%s of\n%+v\nis\n%+v, want\n%+v", d.what, c, got, want)
			}
			if both := sharing(spansOf(got), spans); both != "" {
				t.Fatalf("%s: %s share memory", d.what, both)
			}
			soilCluster(got)
			if !sameCluster(wholeCluster(asked), was) {
				t.Fatalf("%s changes what was handed in:\n%+v, was\n%+v", d.what, wholeCluster(asked), was)
			}
		}
		impl.LeastRow(asked)
		if !sameCluster(wholeCluster(asked), was) {
			t.Fatalf("a cluster that was only asked is changed:\n%+v, was\n%+v", wholeCluster(asked), was)
		}
	}
}

// Nothing is kept from one call to another, nor does an answer hang on how the letters are sent.
func TestCalmAnswersTheSameEachTime(t *testing.T) {
	for _, c := range append(wellUsed(t, false, 2, 50), wellUsed(t, true, 2, 50)...) {
		for _, d := range calmDeeds(c) {
			want, _ := d.done(c)
			for range 4 {
				if got, _ := d.done(c); !sameCluster(got, want) {
					t.Fatalf("%s is\n%+v, was\n%+v", d.what, got, want)
				}
			}
		}
	}
}

// Several may ask at the same time, of one cluster.
func TestCalmAtTheSameTime(t *testing.T) {
	for _, c := range append(wellUsed(t, false, 2, 30), wellUsed(t, true, 2, 30)...) {
		deeds := calmDeeds(c)
		wrong := make(chan string, len(deeds))
		for _, d := range deeds {
			go func() {
				want, _ := d.told(c)
				if got, _ := d.done(c); !sameCluster(got, want) {
					wrong <- d.what
					return
				}
				wrong <- ""
			}()
		}
		for range deeds {
			if what := <-wrong; what != "" {
				t.Errorf("%s is another one", what)
			}
		}
	}
}

// Nobody goes on sending when a call has answered.
func TestCalmLeavesNobodyBehind(t *testing.T) {
	before := runtime.NumGoroutine()
	for _, c := range append(wrongClusters(), wellUsed(t, false, 2, 30)...) {
		for _, d := range calmDeeds(c) {
			d.done(c)
		}
	}
	// One that has closed its channel may need a moment to go.
	for range 100 {
		if runtime.NumGoroutine() <= before {
			return
		}
		time.Sleep(10 * time.Millisecond)
	}
	t.Errorf("%d go on, %d did so before", runtime.NumGoroutine(), before)
}

// The chapter 'Ways': letters come over a channel that is closed at its end: a function makes a channel of letters and closes it, and each function that carries letters ranges over what it answers.
func TestLettersComeOverAChannel(t *testing.T) {
	file, err := parser.ParseFile(token.NewFileSet(), "../impl/l17_calm.go", nil, 0)
	if err != nil {
		t.Fatal(err)
	}
	functions, senders := map[string]*ast.FuncDecl{}, map[string]bool{}
	for _, d := range file.Decls {
		if f, ok := d.(*ast.FuncDecl); ok {
			functions[f.Name.Name] = f
			senders[f.Name.Name] = sendsAndCloses(f)
		}
	}
	for _, from := range []string{"Drain", "CalmRound", "CalmRounds"} {
		reached, found := []string{from}, false
		for i := 0; i < len(reached); i++ {
			ast.Inspect(functions[reached[i]], func(n ast.Node) bool {
				switch x := n.(type) {
				case *ast.RangeStmt:
					found = found || callsASender(x.X, senders)
				case *ast.Ident:
					if functions[x.Name] != nil && !slices.Contains(reached, x.Name) {
						reached = append(reached, x.Name)
					}
				}
				return true
			})
		}
		if !found {
			t.Errorf("%s ranges over no channel that is closed", from)
		}
	}
}

// sendsAndCloses tells whether a function answers a channel of letters, on which it sends, and which it closes.
func sendsAndCloses(f *ast.FuncDecl) bool {
	if f.Type.Results == nil || len(f.Type.Results.List) != 1 {
		return false
	}
	way, ok := f.Type.Results.List[0].Type.(*ast.ChanType)
	if !ok {
		return false
	}
	of, ok := way.Value.(*ast.Ident)
	if !ok || of.Name != "Letter" {
		return false
	}
	sends, closes := false, false
	ast.Inspect(f, func(n ast.Node) bool {
		switch x := n.(type) {
		case *ast.SendStmt:
			sends = true
		case *ast.CallExpr:
			name, ok := x.Fun.(*ast.Ident)
			closes = closes || ok && name.Name == "close"
		}
		return true
	})
	return sends && closes
}

func callsASender(e ast.Expr, functions map[string]bool) bool {
	call, ok := e.(*ast.CallExpr)
	if !ok {
		return false
	}
	name, ok := call.Fun.(*ast.Ident)
	return ok && functions[name.Name]
}
