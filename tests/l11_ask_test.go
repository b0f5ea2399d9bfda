package tests

import (
	"go/ast"
	"go/parser"
	"go/token"
	"math"
	"slices"
	"strings"
	"testing"
	"unsafe"

	"loop.example/g00330/impl"
)

// askTree has blocks of Views that several lead, two and three of one View, and branches that clash:
// 0 - 1 - 2 - 3 - 4 - 8 - 11 - 12, 1 - 5 - 6 - 9 - 13, 2 - 7, 0 - 10 - 14
func askTree(n int) []impl.Block {
	tree := []impl.Block{first()}
	for _, b := range []struct {
		parent, view int
		cmds         []impl.Cmd
	}{
		{0, 1, []impl.Cmd{set("a", 5)}},
		{1, 2, []impl.Cmd{add("a", 2), set("b", 1)}},
		{2, 3, nil},
		{3, 4, []impl.Cmd{take("a", 1), take("b", 100)}},
		{1, 3, []impl.Cmd{set("c", 3)}},
		{5, 4, []impl.Cmd{add("c", 1)}},
		{2, 7, []impl.Cmd{set("d", 1)}},
		{4, 8, []impl.Cmd{set("b", 9)}},
		{6, 8, nil},
		{0, 5, []impl.Cmd{set("e", 4)}},
		{8, impl.MaxView - 1, []impl.Cmd{add("b", 1)}},
		{11, impl.MaxView, []impl.Cmd{set("f", 7)}},
		{9, impl.MaxView, nil},
		{10, impl.MaxView, []impl.Cmd{set("e", 0)}},
	} {
		tree = append(tree, signedOn(tree, n, 1+len(tree)%4, b.parent, b.view, b.cmds...))
	}
	return tree
}

// overTree has blocks above MaxView, which nothing that is right tells of: 0 - 1 - 2 - 3
func overTree(n int) []impl.Block {
	tree := []impl.Block{first()}
	for i, view := range []int{impl.MaxView, impl.MaxView + 1, math.MaxInt} {
		tree = append(tree, signedOn(tree, n, impl.PhOne, i, view))
	}
	return tree
}

func plainLeader(view int, n int) int {
	if n < 1 || view < 0 {
		return 0
	}
	return (view - view%4) / 4 % n
}

// shownTo, enoughTo, votedTo and newsTo are letters of each Kind; a block and a Qc are the leader's.
func shownTo(tree []impl.Block, n int, k int, to int) impl.Letter {
	return impl.Letter{Kind: impl.LtBlock, From: plainLeader(tree[k].View, n), To: to, View: tree[k].View, Block: k, Qc: tree[k].Just}
}

func enoughTo(tree []impl.Block, n int, phase int, k int, to int) impl.Letter {
	return impl.Letter{Kind: impl.LtQc, From: plainLeader(tree[k].View, n), To: to, View: tree[k].View, Qc: signedQc(tree, n, phase, k)}
}

func votedTo(tree []impl.Block, phase int, k int, by int, to int) impl.Letter {
	v := impl.Vote{Phase: phase, View: tree[k].View, Block: k, By: by}
	return impl.Letter{Kind: impl.LtVote, From: by, To: to, View: v.View, Vote: v}
}

func newsTo(from int, to int, view int, q impl.Qc) impl.Letter {
	return impl.Letter{Kind: impl.LtView, From: from, To: to, View: view, Qc: q}
}

// plainAnswered, plainAsk and plainLead are the chapter's own words, sentence by sentence.
func plainAnswered(p impl.Peer, kind int, to int, q impl.Qc, v impl.Vote) impl.Letter {
	l := impl.Letter{Kind: kind, From: p.Id, To: to, View: p.View, Qc: q}
	if kind == 2 {
		l.View, l.Qc, l.Vote = v.View, impl.Qc{}, v
	}
	return l
}

func plainAsk(tree []impl.Block, n int, p impl.Peer, l impl.Letter) (impl.Peer, []impl.Letter) {
	if l.To != p.Id || !plainLetterOk(tree, n, l) {
		return p, nil
	}
	if l.Kind == 2 || l.Kind == 4 {
		return plainLead(tree, n, p, l)
	}
	leader := plainLeader(l.View, n)
	if l.From != leader || l.View < p.View {
		return p, nil
	}
	p = plainEntered(p, l.View)
	vote := func(phase int, block int) (impl.Peer, []impl.Letter) {
		if !plainMayVote(p, phase, l.View) {
			return p, nil
		}
		voted, v := plainVoted(p, phase, l.View, block)
		return voted, []impl.Letter{plainAnswered(voted, 2, leader, impl.Qc{}, v)}
	}
	if l.Kind == 1 {
		if !plainSafeBlock(tree, p.Lock, l.Block) {
			return p, nil
		}
		return vote(1, l.Block)
	}
	if l.Qc.Phase == 1 {
		if l.Qc.View > p.High.View {
			p.High = l.Qc
		}
		return vote(2, l.Qc.Block)
	}
	if l.Qc.Phase == 2 {
		if l.Qc.View > p.Lock.View {
			p.Lock = l.Qc
		}
		return vote(3, l.Qc.Block)
	}
	if l.Qc.Phase == 3 {
		p = plainEntered(plainThrough(tree, p, l.Qc.Block), l.View+1)
		return p, []impl.Letter{plainAnswered(p, 4, plainLeader(p.View, n), p.High, impl.Vote{})}
	}
	return p, nil
}

func plainLead(tree []impl.Block, n int, p impl.Peer, l impl.Letter) (impl.Peer, []impl.Letter) {
	if l.To != p.Id || !plainLetterOk(tree, n, l) {
		return p, nil
	}
	if l.Kind == 4 && plainLeader(l.View, n) == p.Id && (p.View == l.View || p.View == l.View-1) {
		p = plainEntered(p, l.View)
		for _, other := range p.News {
			if other.From == l.From {
				return p, nil
			}
		}
		p.News = slices.Concat(p.News, []impl.Letter{l})
		return p, nil
	}
	if l.Kind != 2 {
		return p, nil
	}
	v := l.Vote
	if v.Phase == 4 {
		if plainLeader(v.View+1, n) != p.Id || p.View != v.View+1 && p.View != v.View {
			return p, nil
		}
		p = plainEntered(p, v.View+1)
	} else if v.View != p.View || plainLeader(p.View, n) != p.Id {
		return p, nil
	}
	for _, other := range p.Votes {
		if other.By == v.By && other.Phase == v.Phase && other.View == v.View {
			return p, nil
		}
	}
	p.Votes = slices.Concat(p.Votes, []impl.Vote{v})
	if plainCount(plainSigners(p.Votes, v.Phase, v.View, v.Block)) != plainQuorum(n) {
		return p, nil
	}
	q, _ := plainQcOf(p.Votes, v.Phase, v.View, v.Block, n)
	if v.Phase == 4 {
		if q.View > p.High.View {
			p.High = q
		}
		return p, nil
	}
	var out []impl.Letter
	for to := 0; to < n; to++ {
		out = append(out, plainAnswered(p, 3, to, q, impl.Vote{}))
	}
	return p, out
}

func holdAsk(t *testing.T, tree []impl.Block, n int, p impl.Peer, l impl.Letter, want impl.Peer, said ...impl.Letter) {
	t.Helper()
	got, out := impl.AskHear(tree, n, p, l)
	if !samePeer(got, want) || !slices.Equal(out, said) {
		t.Fatalf("AskHear(%s, %d, %+v, %+v) =\n%+v, %+v, want\n%+v, %+v", brief(tree), n, p, l, got, out, want, said)
	}
}

func holdLead(t *testing.T, tree []impl.Block, n int, p impl.Peer, l impl.Letter, want impl.Peer, said ...impl.Letter) {
	t.Helper()
	got, out := impl.LeadHear(tree, n, p, l)
	if !samePeer(got, want) || !slices.Equal(out, said) {
		t.Fatalf("LeadHear(%s, %d, %+v, %+v) =\n%+v, %+v, want\n%+v, %+v", brief(tree), n, p, l, got, out, want, said)
	}
}

// holdBoth is for letters to a leader, of which both functions make the same.
func holdBoth(t *testing.T, tree []impl.Block, n int, p impl.Peer, l impl.Letter, want impl.Peer, said ...impl.Letter) {
	t.Helper()
	holdLead(t, tree, n, p, l, want, said...)
	holdAsk(t, tree, n, p, l, want, said...)
}

// holdAsIs is for letters of which nothing is made.
func holdAsIs(t *testing.T, tree []impl.Block, n int, p impl.Peer, l impl.Letter) {
	t.Helper()
	holdBoth(t, tree, n, p, l, p)
}

// inView is a replica with something in all of it, in that View, which voted for nothing yet.
func inView(id int, view int) impl.Peer {
	return withTheRest(impl.Peer{Id: id, View: view})
}

// begun is that replica with nothing heard, in a later View.
func begun(p impl.Peer, view int) impl.Peer {
	p.View, p.Votes, p.News = view, nil, nil
	return p
}

func TestAnswered(t *testing.T) {
	p := inView(2, 6)
	q, v := impl.Qc{Phase: 1, View: 3, Block: 5, Signers: 7}, impl.Vote{Phase: 2, View: 9, Block: 4, By: 1}
	for _, c := range []struct {
		kind int
		want impl.Letter
	}{
		{impl.LtVote, impl.Letter{Kind: impl.LtVote, From: 2, To: 3, View: 9, Vote: v}},
		{impl.LtBlock, impl.Letter{Kind: impl.LtBlock, From: 2, To: 3, View: 6, Qc: q}},
		{impl.LtQc, impl.Letter{Kind: impl.LtQc, From: 2, To: 3, View: 6, Qc: q}},
		{impl.LtView, impl.Letter{Kind: impl.LtView, From: 2, To: 3, View: 6, Qc: q}},
		{0, impl.Letter{From: 2, To: 3, View: 6, Qc: q}},
		{5, impl.Letter{Kind: 5, From: 2, To: 3, View: 6, Qc: q}},
		{-2, impl.Letter{Kind: -2, From: 2, To: 3, View: 6, Qc: q}},
	} {
		if got := impl.Answered(p, c.kind, 3, q, v); got != c.want {
			t.Errorf("Answered of Kind %d = %+v, want %+v", c.kind, got, c.want)
		}
	}
	// Nothing is asked of the numbers: they stand in the letter as they are.
	for i, a := range fieldNumbers() {
		for j, b := range fieldNumbers() {
			c := fieldNumbers()[(i+3*j)%len(fieldNumbers())]
			p.Id, p.View = a, b
			q, v := impl.Qc{Phase: c, View: a, Block: b, Signers: c}, impl.Vote{Phase: b, View: c, Block: a, By: c}
			for kind := -1; kind <= 6; kind++ {
				if got, want := impl.Answered(p, kind, c, q, v), plainAnswered(p, kind, c, q, v); got != want {
					t.Fatalf("Answered(%s, %d, %d, %+v, %+v) = %+v, want %+v", brief(p), kind, c, q, v, got, want)
				}
			}
			if got, want := impl.Answered(p, a, b, q, v), plainAnswered(p, a, b, q, v); got != want {
				t.Fatalf("Answered of Kind %d = %+v, want %+v", a, got, want)
			}
		}
	}
}

func TestAskedByABlock(t *testing.T) {
	const n = 4
	tree := askTree(n)
	lockOn := func(k int) impl.Qc { return signedQc(tree, n, impl.PhTwo, k) }
	gave := func(phase int, view int) impl.Vote { return impl.Vote{Phase: phase, View: view, Block: 1, By: 2} }
	for _, c := range []struct {
		what  string
		k     int
		view  int
		lock  impl.Qc
		last  impl.Vote
		heard bool
		votes bool
	}{
		{what: "at its View", k: 4, view: 4, heard: true, votes: true},
		{what: "one above", k: 4, view: 3, heard: true, votes: true},
		{what: "far above", k: 4, view: 1, heard: true, votes: true},
		{what: "of View 1", k: 1, view: 1, heard: true, votes: true},
		{what: "far above, at MaxView", k: 12, view: 1, heard: true, votes: true},
		{what: "at MaxView", k: 12, view: impl.MaxView, heard: true, votes: true},
		{what: "one above, at MaxView", k: 12, view: impl.MaxView - 1, heard: true, votes: true},
		{what: "one below", k: 4, view: 5},
		{what: "far below", k: 4, view: impl.MaxView},
		{what: "one below MaxView", k: 11, view: impl.MaxView},
		{what: "below a View above MaxView", k: 12, view: impl.MaxView + 1},
		{what: "below the greatest number", k: 12, view: math.MaxInt},
		{what: "above a View of 0", k: 1, view: 0, heard: true, votes: true},
		{what: "above the least number", k: 1, view: math.MinInt, heard: true, votes: true},

		{what: "it is the lock's Block", k: 4, view: 3, lock: lockOn(4), heard: true, votes: true},
		{what: "on the lock's Block", k: 4, view: 3, lock: lockOn(3), heard: true, votes: true},
		{what: "far above the lock's Block", k: 8, view: 3, lock: lockOn(1), heard: true, votes: true},
		{what: "it clashes, its Just above the lock", k: 6, view: 3, lock: lockOn(2), heard: true, votes: true},
		{what: "it clashes, its Just at the lock", k: 6, view: 3, lock: lockOn(3), heard: true},
		{what: "it clashes, its Just below the lock", k: 6, view: 3, lock: lockOn(4), heard: true},
		{what: "it clashes, at its View", k: 6, view: 4, lock: lockOn(4), heard: true},
		{what: "it has no Just, and a lock is there", k: 10, view: 4, lock: lockOn(1), heard: true},
		{what: "it has no Just, and no lock is there", k: 10, view: 4, heard: true, votes: true},
		{what: "below the lock's Block", k: 4, view: 4, lock: lockOn(8), heard: true},
		{what: "a lock of a View below 0", k: 10, view: 4, lock: impl.Qc{View: -1, Block: 3}, heard: true, votes: true},

		{what: "after a vote of a View below", k: 4, view: 4, last: gave(impl.PhThree, 3), heard: true, votes: true},
		{what: "after a chained vote of a View below", k: 4, view: 4, last: gave(impl.PhChain, 3), heard: true, votes: true},
		{what: "after a vote of this View and Phase", k: 4, view: 4, last: gave(impl.PhOne, 4), heard: true},
		{what: "after a vote of this View, of a later Phase", k: 4, view: 4, last: gave(impl.PhTwo, 4), heard: true},
		{what: "after a vote of this View, which it has not entered", k: 4, view: 3, last: gave(impl.PhOne, 4), heard: true},
		{what: "after a vote of a View above", k: 4, view: 3, last: gave(impl.PhOne, 5), heard: true},
		{what: "after a vote of this View, of a Phase below 1", k: 4, view: 3, last: gave(0, 4), heard: true, votes: true},
		{what: "neither safe, nor may it vote", k: 6, view: 3, lock: lockOn(4), last: gave(impl.PhOne, 4), heard: true},
	} {
		p := inView(2, c.view)
		p.High, p.Lock, p.Last = signedQc(tree, n, impl.PhOne, 2), c.lock, c.last
		l := shownTo(tree, n, c.k, 2)
		want := p
		if c.heard && l.View > p.View {
			want = begun(p, l.View)
		}
		var said []impl.Letter
		if c.votes {
			want.Last = impl.Vote{Phase: impl.PhOne, View: l.View, Block: c.k, By: 2}
			said = []impl.Letter{{Kind: impl.LtVote, From: 2, To: l.From, View: l.View, Vote: want.Last}}
		}
		t.Run(c.what, func(t *testing.T) {
			holdAsk(t, tree, n, p, l, want, said...)
			// Neither one who does not lead that View is heard, nor is a letter to another one.
			for from := range n {
				other := l
				if other.From = from; from != l.From {
					holdAsIs(t, tree, n, p, other)
				}
				other = l
				if other.To = from; from != 2 {
					holdAsIs(t, tree, n, p, other)
				}
			}
			// What a block tells is not for the leader.
			holdLead(t, tree, n, p, l, p)
		})
	}
}

// A block is asked for once: the same letter again is heard, and nothing is said.
func TestAskedTwiceByABlock(t *testing.T) {
	for n := 1; n <= impl.MaxPeers; n++ {
		tree := askTree(n)
		for k := 1; k < len(tree); k++ {
			l := shownTo(tree, n, k, n-1)
			p, out := impl.AskHear(tree, n, impl.PeerNew(n-1), l)
			if len(out) != 1 || out[0].Kind != impl.LtVote || p.Last != out[0].Vote || p.View != l.View {
				t.Fatalf("AskHear of %+v = %+v, %+v", l, p, out)
			}
			holdAsk(t, tree, n, p, l, p)
			// Nor for another block of that View.
			for other := 1; other < len(tree); other++ {
				if tree[other].View == l.View {
					holdAsk(t, tree, n, p, shownTo(tree, n, other, n-1), p)
				}
			}
		}
	}
}

func TestAskedByAQc(t *testing.T) {
	const n = 4
	tree := askTree(n)
	on := func(phase int, k int) impl.Qc { return signedQc(tree, n, phase, k) }
	gave := func(phase int, view int) impl.Vote { return impl.Vote{Phase: phase, View: view, Block: 6, By: 2} }
	for _, c := range []struct {
		what  string
		phase int
		k     int
		view  int
		has   impl.Qc // High, with PhOne, Lock, with PhTwo
		last  impl.Vote
		heard bool
		takes bool
		votes bool
	}{
		{what: "one, at its View", phase: 1, k: 4, view: 4, heard: true, takes: true, votes: true},
		{what: "one, one above", phase: 1, k: 4, view: 3, heard: true, takes: true, votes: true},
		{what: "one, far above", phase: 1, k: 12, view: 1, heard: true, takes: true, votes: true},
		{what: "one, at MaxView", phase: 1, k: 12, view: impl.MaxView, heard: true, takes: true, votes: true},
		{what: "one, one below", phase: 1, k: 4, view: 5},
		{what: "one, far below", phase: 1, k: 4, view: impl.MaxView},
		{what: "one, below a View above MaxView", phase: 1, k: 12, view: impl.MaxView + 1},
		{what: "two, at its View", phase: 2, k: 4, view: 4, heard: true, takes: true, votes: true},
		{what: "two, one above", phase: 2, k: 4, view: 3, heard: true, takes: true, votes: true},
		{what: "two, far above", phase: 2, k: 12, view: 1, heard: true, takes: true, votes: true},
		{what: "two, at MaxView", phase: 2, k: 12, view: impl.MaxView, heard: true, takes: true, votes: true},
		{what: "two, one below", phase: 2, k: 4, view: 5},
		{what: "two, below a View above MaxView", phase: 2, k: 12, view: math.MaxInt},
		{what: "chained, at its View", phase: 4, k: 4, view: 4, heard: true},
		{what: "chained, above", phase: 4, k: 4, view: 2, heard: true},
		{what: "chained, below", phase: 4, k: 4, view: 5},

		{what: "one, High of a View below", phase: 1, k: 4, view: 4, has: on(1, 3), heard: true, takes: true, votes: true},
		{what: "one, High of that View", phase: 1, k: 4, view: 4, has: on(1, 6), heard: true, votes: true},
		{what: "one, High of a View above", phase: 1, k: 4, view: 4, has: on(1, 8), heard: true, votes: true},
		{what: "one, High of a View below 0", phase: 1, k: 4, view: 4, has: impl.Qc{View: -1}, heard: true, takes: true, votes: true},
		{what: "two, Lock of a View below", phase: 2, k: 4, view: 4, has: on(2, 3), heard: true, takes: true, votes: true},
		{what: "two, Lock of that View", phase: 2, k: 4, view: 4, has: on(2, 6), heard: true, votes: true},
		{what: "two, Lock of a View above", phase: 2, k: 4, view: 4, has: on(2, 8), heard: true, votes: true},
		{what: "two, Lock that clashes", phase: 2, k: 4, view: 4, has: on(2, 5), heard: true, takes: true, votes: true},

		{what: "one, after its first vote", phase: 1, k: 4, view: 4, last: gave(1, 4), heard: true, takes: true, votes: true},
		{what: "one, after its second vote", phase: 1, k: 4, view: 4, last: gave(2, 4), heard: true, takes: true},
		{what: "one, after its third vote", phase: 1, k: 4, view: 4, last: gave(3, 4), heard: true, takes: true},
		{what: "one, after a chained vote", phase: 1, k: 4, view: 4, last: gave(4, 4), heard: true, takes: true},
		{what: "one, after votes of a View below", phase: 1, k: 4, view: 4, last: gave(3, 3), heard: true, takes: true, votes: true},
		{what: "one, after a vote of a View above", phase: 1, k: 4, view: 3, last: gave(1, 5), heard: true, takes: true},
		{what: "two, the first Phase is passed over", phase: 2, k: 4, view: 4, heard: true, takes: true, votes: true},
		{what: "two, the second Phase is passed over", phase: 2, k: 4, view: 4, last: gave(1, 4), heard: true, takes: true, votes: true},
		{what: "two, after its second vote", phase: 2, k: 4, view: 4, last: gave(2, 4), heard: true, takes: true, votes: true},
		{what: "two, after its third vote", phase: 2, k: 4, view: 4, last: gave(3, 4), heard: true, takes: true},
		{what: "two, after a chained vote", phase: 2, k: 4, view: 4, last: gave(4, 4), heard: true, takes: true},
		{what: "two, after a vote of a View above", phase: 2, k: 4, view: 3, last: gave(1, 8), heard: true, takes: true},
	} {
		p := inView(2, c.view)
		p.High, p.Lock, p.Last = impl.Qc{Phase: 3, View: 2, Block: 2, Signers: 9}, impl.Qc{Phase: 3, View: 1, Block: 1, Signers: 9}, c.last
		l := enoughTo(tree, n, c.phase, c.k, 2)
		switch c.phase {
		case impl.PhOne:
			p.High = c.has
		case impl.PhTwo:
			p.Lock = c.has
		}
		want := p
		if c.heard && l.View > p.View {
			want = begun(p, l.View)
		}
		switch {
		case c.takes && c.phase == impl.PhOne:
			want.High = l.Qc
		case c.takes:
			want.Lock = l.Qc
		}
		var said []impl.Letter
		if c.votes {
			want.Last = impl.Vote{Phase: c.phase + 1, View: l.View, Block: c.k, By: 2}
			said = []impl.Letter{{Kind: impl.LtVote, From: 2, To: l.From, View: l.View, Vote: want.Last}}
		}
		t.Run(c.what, func(t *testing.T) {
			holdAsk(t, tree, n, p, l, want, said...)
			for from := range n {
				other := l
				if other.From = from; from != l.From {
					holdAsIs(t, tree, n, p, other)
				}
				other = l
				if other.To = from; from != 2 {
					holdAsIs(t, tree, n, p, other)
				}
			}
			holdLead(t, tree, n, p, l, p)
		})
	}
}

func TestAskedByTheThirdQc(t *testing.T) {
	const n = 4
	tree := askTree(n)
	high := signedQc(tree, n, impl.PhOne, 2)
	for _, c := range []struct {
		what string
		k    int
		view int
		row  []int
		want []int
		next int
		to   int
	}{
		{"from the first block on", 4, 4, nil, []int{1, 2, 3, 4}, 5, 1},
		{"behind its Row", 4, 4, []int{1, 2}, []int{1, 2, 3, 4}, 5, 1},
		{"one behind its Row", 4, 3, []int{1, 2, 3}, []int{1, 2, 3, 4}, 5, 1},
		{"it is the Row's last one", 4, 1, []int{1, 2, 3, 4}, []int{1, 2, 3, 4}, 5, 1},
		{"it clashes", 4, 4, []int{1, 5}, []int{1, 5}, 5, 1},
		{"below the Row's last one", 4, 4, []int{1, 2, 3, 4, 8}, []int{1, 2, 3, 4, 8}, 5, 1},
		{"another leader is next", 3, 2, []int{1}, []int{1, 2, 3}, 4, 1},
		{"another leader is next, and it clashes", 3, 2, []int{1, 5}, []int{1, 5}, 4, 1},
		{"of View 1", 1, 1, nil, []int{1}, 2, 0},
		{"up to MaxView", 11, 8, []int{1, 2}, []int{1, 2, 3, 4, 8, 11}, impl.MaxView, 1},
		{"at MaxView", 12, impl.MaxView, []int{1, 2, 3}, []int{1, 2, 3, 4, 8, 11, 12}, impl.MaxView, 1},
		{"at MaxView, from below", 12, 5, []int{1, 2, 3}, []int{1, 2, 3, 4, 8, 11, 12}, impl.MaxView, 1},
		{"at MaxView, and it clashes", 13, impl.MaxView, []int{1, 2}, []int{1, 2}, impl.MaxView, 1},
		{"a Row that is none", 4, 4, []int{99}, []int{99}, 5, 1},
	} {
		p := behind(tree, 0)
		p.View, p.High, p.Row, p.Cells = c.view, high, c.row, plainRowCells(tree, c.row)
		p.Early, p.Undos = []int{10}, []impl.Undo{gone("e")}
		p.Cells = cellsAnd(p.Cells, "e", 4)
		want := p
		if c.next > p.View {
			want = begun(p, c.next)
		}
		if want.Row = c.want; plainExtends(tree, c.k, plainLast(c.row)) {
			want.Cells, want.Early, want.Undos = plainRowCells(tree, c.want), nil, nil
		}
		said := impl.Letter{Kind: impl.LtView, From: 2, To: c.to, View: c.next, Qc: high}
		t.Run(c.what, func(t *testing.T) {
			l := enoughTo(tree, n, impl.PhThree, c.k, 2)
			holdAsk(t, tree, n, p, l, want, said)
			// What it gave before does not matter, and stays.
			for _, last := range []impl.Vote{{}, {Phase: 3, View: l.View, Block: c.k, By: 2}, {Phase: 4, View: impl.MaxView, Block: 1, By: 2}} {
				p, want := p, want
				p.Last, want.Last = last, last
				holdAsk(t, tree, n, p, l, want, said)
			}
			// Once it is behind, the letter is too late; but there is nothing behind MaxView.
			if l.View < impl.MaxView {
				holdAsk(t, tree, n, want, l, want)
			}
			holdLead(t, tree, n, p, l, p)
			p.View = l.View + 1
			holdAsk(t, tree, n, p, l, p)
		})
	}
}

// A View of a letter above MaxView is never heard, though the tree has such a block.
func TestAskedAboveMaxView(t *testing.T) {
	for n := 1; n <= impl.MaxPeers; n++ {
		tree := overTree(n)
		for k := 2; k < len(tree); k++ {
			for _, view := range []int{1, impl.MaxView, impl.MaxView + 1, tree[k].View - 1, tree[k].View} {
				for id := range n {
					p := inView(id, view)
					holdAsIs(t, tree, n, p, shownTo(tree, n, k, id))
					holdAsIs(t, tree, n, p, newsTo(0, id, tree[k].View, impl.Qc{}))
					for phase := impl.PhOne; phase <= impl.PhChain; phase++ {
						holdAsIs(t, tree, n, p, enoughTo(tree, n, phase, k, id))
						holdAsIs(t, tree, n, p, votedTo(tree, phase, k, 0, id))
					}
				}
			}
		}
	}
}

// Each letter that is one number away from a right one is heard as it says, or, when it is not right any more, not at all.
func TestAskedByLettersThatAreNotRight(t *testing.T) {
	const n = 4
	tree := askTree(n)
	heard, refused := 0, 0
	for _, right := range []impl.Letter{
		shownTo(tree, n, 4, 2), enoughTo(tree, n, impl.PhOne, 4, 2), enoughTo(tree, n, impl.PhTwo, 3, 2), enoughTo(tree, n, impl.PhThree, 8, 2),
		votedTo(tree, impl.PhOne, 8, 3, 2), votedTo(tree, impl.PhChain, 8, 3, 2), votedTo(tree, impl.PhChain, 7, 3, 2), newsTo(3, 2, 8, impl.Qc{}), newsTo(3, 2, 8, signedQc(tree, n, impl.PhOne, 4)),
	} {
		for _, view := range []int{1, 3, 4, 7, 8} {
			p := inView(2, view)
			for _, l := range append(turnedLetters(right), right) {
				want, said := plainAsk(tree, n, p, l)
				holdAsk(t, tree, n, p, l, want, said...)
				lead, toAll := plainLead(tree, n, p, l)
				holdLead(t, tree, n, p, l, lead, toAll...)
				switch {
				case !plainLetterOk(tree, n, l):
					refused++
					holdAsIs(t, tree, n, p, l)
				case !samePeer(want, p):
					heard++
				}
			}
		}
	}
	for _, l := range wildLetters() {
		for _, p := range []impl.Peer{inView(0, 1), inView(2, 4), inView(l.To, l.View), inView(l.To, 1)} {
			if !plainLetterOk(tree, n, l) {
				refused++
				holdAsIs(t, tree, n, p, l)
			}
		}
	}
	if heard < 25 || refused < 5000 {
		t.Errorf("only %d are heard, and %d are not right", heard, refused)
	}
}

// said are the letters of a Qc to each of n.
func saidToEach(n int, from int, view int, q impl.Qc) []impl.Letter {
	var out []impl.Letter
	for to := range n {
		out = append(out, impl.Letter{Kind: impl.LtQc, From: from, To: to, View: view, Qc: q})
	}
	return out
}

// Votes are heard one by one: below Quorum nothing is said, at it the Qc to each, above it nothing any more.
func TestLeadersHearVotes(t *testing.T) {
	for n := 1; n <= impl.MaxPeers; n++ {
		tree := askTree(n)
		for k := 1; k < len(tree); k++ {
			view := tree[k].View
			id := plainLeader(view, n)
			for phase := impl.PhOne; phase <= impl.PhThree; phase++ {
				p := inView(id, view)
				p.Votes = []impl.Vote{{Phase: phase, View: view - 1, Block: k, By: 0}, {Phase: phase + 1, View: view, Block: k, By: n - 1}}
				for i := range n {
					by := (i*2 + 1) % n
					if n%2 == 0 {
						by = n - 1 - i
					}
					l := votedTo(tree, phase, k, by, id)
					want := p
					want.Votes = append(slices.Clone(p.Votes), l.Vote)
					var said []impl.Letter
					if i+1 == plainQuorum(n) {
						said = saidToEach(n, id, view, impl.Qc{Phase: phase, View: view, Block: k, Signers: plainSigners(want.Votes, phase, view, k)})
					}
					holdBoth(t, tree, n, p, l, want, said...)
					// The same one again, and another block's of the same one, is not taken, and nothing is said again.
					holdBoth(t, tree, n, want, l, want)
					for other := 1; other < len(tree); other++ {
						if tree[other].View == view {
							holdBoth(t, tree, n, want, votedTo(tree, phase, other, by, id), want)
						}
					}
					p = want
				}
			}
		}
	}
}

func TestLeadersHearVotesOfTheirView(t *testing.T) {
	for n := 1; n <= impl.MaxPeers; n++ {
		tree := askTree(n)
		for k := 1; k < len(tree); k++ {
			view := tree[k].View
			for phase := impl.PhOne; phase <= impl.PhThree; phase++ {
				for id := range n {
					for _, in := range []int{math.MinInt, 0, 1, view - 2, view - 1, view, view + 1, view + 2, impl.MaxView, impl.MaxView + 1, math.MaxInt} {
						p := inView(id, in)
						p.Votes = nil
						l := votedTo(tree, phase, k, n-1, id)
						if in != view || id != plainLeader(view, n) {
							holdAsIs(t, tree, n, p, l)
							continue
						}
						want := p
						want.Votes = []impl.Vote{l.Vote}
						var said []impl.Letter
						if n == 1 {
							said = saidToEach(n, 0, view, impl.Qc{Phase: phase, View: view, Block: k, Signers: 1})
						}
						holdBoth(t, tree, n, p, l, want, said...)
					}
				}
			}
		}
	}
}

// Votes of several blocks, and of several Phases, are counted apart.
func TestLeadersCountApart(t *testing.T) {
	const n, id, view = 4, 1, 4
	tree := askTree(n)
	p := impl.Peer{Id: id, View: view}
	for _, c := range []struct {
		phase, k, by int
		taken        bool
		signers      int
	}{
		{1, 4, 0, true, 0}, {1, 6, 1, true, 0}, {1, 4, 1, false, 0}, {1, 4, 2, true, 0}, {1, 6, 2, false, 0}, {2, 4, 1, true, 0}, {2, 4, 0, true, 0}, {1, 4, 3, true, 13},
		{1, 4, 3, false, 0}, {1, 6, 0, false, 0}, {2, 4, 3, true, 11}, {2, 4, 2, true, 0}, {2, 6, 2, false, 0}, {3, 6, 0, true, 0}, {3, 4, 1, true, 0}, {3, 6, 2, true, 0}, {3, 4, 3, true, 0}, {3, 4, 0, false, 0}, {3, 6, 1, false, 0},
	} {
		l := votedTo(tree, c.phase, c.k, c.by, id)
		want := p
		if c.taken {
			want.Votes = append(slices.Clone(p.Votes), l.Vote)
		}
		var said []impl.Letter
		if c.signers > 0 {
			said = saidToEach(n, id, view, impl.Qc{Phase: c.phase, View: view, Block: c.k, Signers: c.signers})
		}
		holdBoth(t, tree, n, p, l, want, said...)
		p = want
	}
	// A chained vote of the View below is counted apart, too.
	l := votedTo(tree, impl.PhChain, 3, 0, id)
	want := p
	want.Votes = append(slices.Clone(p.Votes), l.Vote)
	holdBoth(t, tree, n, p, l, want)
}

func TestLeadersHearChainedVotes(t *testing.T) {
	const n = 4
	tree := askTree(n)
	for _, c := range []struct {
		what string
		k    int
		id   int
		view int
		next int // the View that it is Entered; 0 when it is not heard
	}{
		{"of the View below its own", 3, 1, 4, 4}, {"of the View below its own, which it leads, too", 4, 1, 5, 5}, {"of its own, and it leads the one behind", 3, 1, 3, 4}, {"of its own, which it leads, and the one behind", 4, 1, 4, 5},
		{"of its own, and another one leads the one behind", 3, 0, 3, 0}, {"of the View below its own, which another one leads", 3, 0, 4, 0}, {"of its own, which neither it leads nor the one behind", 3, 2, 3, 0},
		{"of the View below its own, which it leads not, but the one below", 7, 1, 8, 0}, {"of the View below, at another leader's first one", 7, 2, 8, 8}, {"of its own, ahead of its first one", 7, 2, 7, 8}, {"of its own, its last one", 7, 1, 7, 0},
		{"of one above", 4, 1, 3, 0}, {"of two below", 3, 1, 5, 0}, {"of two below, which it leads", 4, 1, 6, 0}, {"of one far below", 3, 1, impl.MaxView, 0}, {"of one far above", 11, 1, 4, 0},
		{"of View 1", 1, 0, 1, 2}, {"of View 1, in the next one", 1, 0, 2, 2}, {"of View 1, in View 0", 1, 0, 0, 0},
		{"of the View below MaxView", 11, 1, impl.MaxView - 1, impl.MaxView}, {"of the View below MaxView, at it", 11, 1, impl.MaxView, impl.MaxView}, {"of the View below MaxView, by its leader", 11, 0, impl.MaxView - 1, 0},
		{"of MaxView, which stays", 12, 1, impl.MaxView, impl.MaxView}, {"of MaxView, in a View above", 12, 1, impl.MaxView + 1, impl.MaxView + 1}, {"of MaxView, by another one", 12, 0, impl.MaxView, 0}, {"of MaxView, far above", 12, 1, math.MaxInt, 0},
	} {
		t.Run(c.what, func(t *testing.T) {
			p := inView(c.id, c.view)
			p.High = impl.Qc{Phase: 1, View: 1, Block: 1, Signers: 14}
			l := votedTo(tree, impl.PhChain, c.k, 2, c.id)
			if c.next == 0 {
				holdAsIs(t, tree, n, p, l)
				return
			}
			want := p
			if c.next > p.View {
				want = begun(p, c.next)
			}
			want.Votes = append(slices.Clone(want.Votes), l.Vote)
			holdBoth(t, tree, n, p, l, want)
			// The same one again, and another block's of the same one, is not taken.
			again, _ := impl.LeadHear(tree, n, want, l)
			if c.next == c.view || want.View > l.View {
				if !samePeer(again, want) {
					t.Errorf("twice: %+v, want %+v", again, want)
				}
			}
		})
	}
}

// Enough chained votes are told to nobody: they are High, when that is below.
func TestChainedVotesThatAreEnough(t *testing.T) {
	for n := 1; n <= impl.MaxPeers; n++ {
		tree := askTree(n)
		for k := 1; k < len(tree); k++ {
			view := tree[k].View
			id := plainLeader(view+1, n)
			for _, high := range []impl.Qc{{}, {View: -5, Block: 9}, {Phase: 1, View: view - 1, Block: 1, Signers: 3}, {Phase: 1, View: view, Block: 1, Signers: 3}, {Phase: 1, View: view + 1, Block: 1, Signers: 3}, {View: math.MaxInt}} {
				p := inView(id, view)
				if p.High = high; view < impl.MaxView {
					p.Votes = votesOf(impl.PhChain, view, k, 1<<n-1)
				}
				for i := range n {
					l := votedTo(tree, impl.PhChain, k, n-1-i, id)
					want := p
					if i == 0 && view < impl.MaxView {
						want = begun(p, view+1)
					}
					want.Votes = append(slices.Clone(want.Votes), l.Vote)
					if i+1 == plainQuorum(n) && high.View < view {
						want.High = impl.Qc{Phase: impl.PhChain, View: view, Block: k, Signers: plainSigners(want.Votes, impl.PhChain, view, k)}
					}
					holdBoth(t, tree, n, p, l, want)
					holdBoth(t, tree, n, want, l, want)
					p = want
				}
			}
		}
	}
}

func TestLeadersHearNews(t *testing.T) {
	for n := 1; n <= impl.MaxPeers; n++ {
		tree := askTree(n)
		for _, view := range []int{1, 2, 3, 4, 5, 7, 8, 11, 12, 16, 27, 28, 29, impl.MaxView - 1, impl.MaxView} {
			for id := range n {
				for _, in := range []int{math.MinInt, 0, view - 2, view - 1, view, view + 1, view + 2, impl.MaxView, impl.MaxView + 1, math.MaxInt} {
					p := inView(id, in)
					p.News = []impl.Letter{newsTo(0, id, in, impl.Qc{})}
					p.High = impl.Qc{View: -1}
					l := newsTo(n-1, id, view, impl.Qc{})
					if view > 1 {
						l.Qc = signedQc(tree, n, impl.PhTwo, 1)
					}
					if id != plainLeader(view, n) || in != view && in != view-1 {
						holdAsIs(t, tree, n, p, l)
						continue
					}
					want := p
					if in == view-1 {
						want = begun(p, view)
					}
					if n > 1 || in == view-1 {
						want.News = append(slices.Clone(want.News), l)
					}
					holdBoth(t, tree, n, p, l, want)
					// From the same one it is not taken again, whatever it tells.
					holdBoth(t, tree, n, want, l, want)
					l.Qc = impl.Qc{}
					holdBoth(t, tree, n, want, l, want)
				}
			}
		}
	}
}

// News of several stand in the order in which they came.
func TestLeadersHearNewsOfSeveral(t *testing.T) {
	for n := 1; n <= impl.MaxPeers; n++ {
		tree := askTree(n)
		id := plainLeader(8, n)
		p := inView(id, 7)
		want := begun(p, 8)
		for i := range n {
			l := newsTo((n-i)%n, id, 8, signedQc(tree, n, impl.PhOne, 1+i%4))
			want.News = append(slices.Clone(want.News), l)
			holdBoth(t, tree, n, p, l, want)
			p = want
			for _, other := range p.News {
				holdBoth(t, tree, n, p, other, p)
			}
		}
		// A vote and the News do not stand in each other's way.
		l := votedTo(tree, impl.PhOne, 8, n-1, id)
		want.Votes = []impl.Vote{l.Vote}
		if n > 1 {
			holdBoth(t, tree, n, p, l, want)
		}
	}
}

// Votes and News that nobody gave: they are counted by who there is, once for each, and By, Phase and View alone refuse another one.
func TestLeadersWithVotesThatNobodyGave(t *testing.T) {
	const n, id, view, k = 4, 1, 4, 4
	tree := askTree(n)
	v := func(by int) impl.Vote { return impl.Vote{Phase: impl.PhTwo, View: view, Block: k, By: by} }
	for _, c := range []struct {
		what    string
		votes   []impl.Vote
		taken   bool
		signers int
	}{
		{"one by one twice", []impl.Vote{v(0), v(0)}, true, 0},
		{"two, both of them twice", []impl.Vote{v(0), v(1), v(0), v(1)}, true, 11},
		{"two and one that nobody is", []impl.Vote{v(0), v(7), v(-1)}, true, 0},
		{"two and such as nobody is", []impl.Vote{v(math.MaxInt), v(0), v(2), v(64), v(math.MinInt)}, true, 13},
		{"two that are not among four", []impl.Vote{v(4), v(6)}, true, 88},
		{"one and three that are not among four", []impl.Vote{v(4), v(5), v(6), v(0)}, true, 0},
		{"its own one, of a block that there is not", []impl.Vote{{Phase: impl.PhTwo, View: view, Block: 999, By: 3}, v(0), v(1)}, false, 0},
		{"its own one, of another Phase and View", []impl.Vote{{Phase: impl.PhTwo, View: view + 1, Block: k, By: 3}, {Phase: 77, View: view, Block: k, By: 3}, v(0), v(1)}, true, 11},
		{"others of another Block", []impl.Vote{{Phase: impl.PhTwo, View: view, Block: -k, By: 0}, {Phase: impl.PhTwo, View: view, Block: 0, By: 1}}, true, 0},
	} {
		p := impl.Peer{Id: id, View: view, Votes: c.votes}
		l := votedTo(tree, impl.PhTwo, k, 3, id)
		want := p
		if c.taken {
			want.Votes = append(slices.Clone(p.Votes), l.Vote)
		}
		var said []impl.Letter
		if c.signers > 0 {
			said = saidToEach(n, id, view, impl.Qc{Phase: impl.PhTwo, View: view, Block: k, Signers: c.signers})
		}
		t.Run(c.what, func(t *testing.T) { holdBoth(t, tree, n, p, l, want, said...) })
	}
	// Of News only From is asked, whatever stands there.
	p := impl.Peer{Id: id, View: view, News: []impl.Letter{{From: 2}, {Kind: -1, From: math.MaxInt}, {Kind: impl.LtVote, From: 0, View: 77}}}
	for from := range n {
		l := newsTo(from, id, view, impl.Qc{})
		want := p
		if from == 1 || from == 3 {
			want.News = append(slices.Clone(p.News), l)
		}
		holdBoth(t, tree, n, p, l, want)
	}
}

// How many there are is asked of what is signed alone: a block on the first one, and an LtView of nothing, may come among any number of them.
func TestAskedAmongMany(t *testing.T) {
	tree := askTree(1)
	for _, n := range somePeers() {
		for _, id := range []int{0, n - 1, n, -1} {
			p := inView(id, 1)
			l := shownTo(tree, n, 1, id)
			if n < 1 || id < 0 || id >= n {
				holdAsIs(t, tree, n, p, l)
				holdAsIs(t, tree, n, p, newsTo(0, id, 1, impl.Qc{}))
				continue
			}
			v := impl.Vote{Phase: impl.PhOne, View: 1, Block: 1, By: id}
			want := p
			want.Last = v
			holdAsk(t, tree, n, p, l, want, impl.Letter{Kind: impl.LtVote, From: id, To: 0, View: 1, Vote: v})
			news := newsTo(n-1, id, 1, impl.Qc{})
			want = p
			if id == 0 && n > 2 {
				want.News = append(slices.Clone(p.News), news)
			}
			holdBoth(t, tree, n, p, news, want)
			// What is signed is right up to MaxPeers.
			if n > impl.MaxPeers {
				for phase := impl.PhOne; phase <= impl.PhChain; phase++ {
					holdAsIs(t, tree, n, p, votedTo(tree, phase, 1, 0, id))
					holdAsIs(t, tree, n, p, enoughTo(tree, 7, phase, 1, id))
				}
				holdAsIs(t, tree, n, p, shownTo(tree, n, 2, id))
			}
		}
	}
}

// drawn answers numbers below what is asked, the same ones each time.
func drawn(seed uint32) func(int) int {
	return func(below int) int {
		seed = seed*1664525 + 1013904223
		return int(seed>>8) % below
	}
}

// heardPeers are replicas to whom a letter may come: in Views about its own, with votes, Qcs and News of that View and of others.
func heardPeers(tree []impl.Block, n int, l impl.Letter, draw func(int) int) []impl.Peer {
	var out []impl.Peer
	views := []int{l.View, l.View, l.View - 1, l.View + 1, l.View - 2, l.View + 2, 1, 0, impl.MaxView, impl.MaxView + 1, math.MinInt, math.MaxInt}
	near := func() int { return l.View + draw(5) - 2 }
	block := func() int { return draw(len(tree)+3) - 1 }
	for _, view := range views {
		for range 3 {
			p := impl.Peer{Id: l.To, View: view, Shown: draw(9)}
			p.High = impl.Qc{Phase: draw(5), View: near(), Block: block(), Signers: draw(128)}
			p.Lock = impl.Qc{Phase: draw(5), View: near() * draw(2), Block: block(), Signers: draw(128)}
			p.Last = impl.Vote{Phase: draw(5), View: near(), Block: block(), By: draw(7)}
			if len(tree) > 0 {
				p.Row = plainRowTo(tree, draw(len(tree)+1))
			}
			p.Cells = plainRowCells(tree, p.Row)
			if draw(2) == 0 {
				p = plainTooEarly(tree, p, block())
			}
			asked := l.Vote
			for range draw(12) {
				v := impl.Vote{Phase: asked.Phase, View: asked.View, Block: asked.Block, By: draw(9) - 1}
				switch draw(9) {
				case 0:
					v.Phase = draw(6)
				case 1:
					v.View = near()
				case 2:
					v.Block = block()
				}
				p.Votes = append(p.Votes, v)
			}
			for range draw(3) {
				p.News = append(p.News, newsTo(draw(8), l.To, near(), impl.Qc{}))
			}
			out = append(out, p)
		}
	}
	other := out[draw(len(out))]
	other.Id++
	return append(out, other)
}

// allKinds are letters of every Kind about each block of a tree, of all who may say them.
func allKinds(tree []impl.Block, n int) []impl.Letter {
	var out []impl.Letter
	for k := range tree {
		leader := plainLeader(tree[k].View, n)
		for _, to := range []int{leader, (leader + 1) % max(n, 1), plainLeader(tree[k].View+1, n)} {
			by := (k + to) % max(n, 1)
			out = append(out, shownTo(tree, n, k, to), newsTo(by, to, tree[k].View, impl.Qc{}), newsTo(by, to, tree[k].View+1, tree[k].Just))
			for phase := 0; phase <= 5; phase++ {
				out = append(out, votedTo(tree, phase, k, by, to))
				if n >= 1 && n <= 60 {
					out = append(out, enoughTo(tree, n, phase, k, to))
				}
			}
		}
	}
	return out
}

func TestHearByTheWords(t *testing.T) {
	draw := drawn(11)
	counts := map[string]int{"as it is": 0, "one vote": 0, "High": 0, "Lock": 0, "through": 0, "the Qc to each": 0, "a vote taken": 0, "News": 0, "entered alone": 0}
	for _, n := range []int{-1, 0, 1, 2, 3, 4, 5, 6, 7, 8} {
		trees := [][]impl.Block{askTree(max(n, 1)), letterTree(max(n, 1)), hollowTree(), overTree(max(n, 1)), branches(), accountTree(), wrongCmdsTree()}
		trees = append(trees, brokenTrees()[:6]...)
		trees = append(trees, wildTrees()[200:206]...)
		for _, tree := range trees {
			for _, l := range allKinds(tree, n) {
				for _, p := range heardPeers(tree, n, l, draw) {
					want, said := plainAsk(tree, n, p, l)
					holdAsk(t, tree, n, p, l, want, said...)
					lead, toAll := plainLead(tree, n, p, l)
					holdLead(t, tree, n, p, l, lead, toAll...)
					counts[outcome(p, want, said)]++
				}
			}
		}
	}
	for what, count := range counts {
		if count < 500 {
			t.Errorf("only %d are of this kind: %s", count, what)
		}
	}
}

func outcome(p impl.Peer, got impl.Peer, said []impl.Letter) string {
	switch {
	case got.High != p.High:
		return "High"
	case got.Lock != p.Lock:
		return "Lock"
	case len(got.Row) > len(p.Row):
		return "through"
	case len(said) > 0 && said[0].Kind == impl.LtQc:
		return "the Qc to each"
	case len(said) > 0 && said[0].Kind == impl.LtVote:
		return "one vote"
	case len(got.Votes) > len(p.Votes):
		return "a vote taken"
	case len(got.News) > len(p.News):
		return "News"
	case samePeer(got, p):
		return "as it is"
	}
	return "entered alone"
}

// Trees, replicas and letters of which nothing is right.
func TestHearWrongInputs(t *testing.T) {
	letters := append(wildLetters(), impl.Letter{})
	peers := append(wildPeers()[:40], impl.Peer{}, wildPeers()[len(wildPeers())-1])
	for i, tree := range [][]impl.Block{nil, {}, wrongTrees()[3], wrongTrees()[11], brokenTrees()[5], wildTrees()[210], {{}, {}, {}}, {{View: 4}, {Parent: 9, View: 4, Just: impl.Qc{View: 4}}}, wildBlocks()[:20]} {
		for j, n := range somePeers() {
			for k, l := range letters {
				for m := range 3 {
					p := peers[(i+j*3+k*5+m*7)%len(peers)]
					if m == 0 {
						p.Id = l.To
					}
					want, said := plainAsk(tree, n, p, l)
					holdAsk(t, tree, n, p, l, want, said...)
					lead, toAll := plainLead(tree, n, p, l)
					holdLead(t, tree, n, p, l, lead, toAll...)
				}
			}
		}
	}
}

// Trees that are not right, but whose letters are: they are heard by the same words.
func TestHearInTreesThatAreNotRight(t *testing.T) {
	draw := drawn(3)
	heard := 0
	for _, n := range []int{1, 2, 4, 7} {
		for k := range askTree(n) {
			for _, parent := range wrongParents(k, len(askTree(n))) {
				tree := withParent(askTree(n), k, parent)
				for _, l := range []impl.Letter{shownTo(tree, n, k, 0), shownTo(tree, n, len(tree)-3, 0), enoughTo(tree, n, impl.PhThree, k, 0), enoughTo(tree, n, impl.PhThree, len(tree)-3, 0), enoughTo(tree, n, impl.PhTwo, k, 0), votedTo(tree, impl.PhOne, k, 0, plainLeader(tree[k].View, n))} {
					for _, p := range heardPeers(tree, n, l, draw)[:12] {
						want, said := plainAsk(tree, n, p, l)
						holdAsk(t, tree, n, p, l, want, said...)
						if !samePeer(want, p) {
							heard++
						}
					}
				}
			}
		}
	}
	if heard < 500 {
		t.Errorf("only %d are heard", heard)
	}
}

// holdAskPromise is promise 11, of one letter.
func holdAskPromise(t *testing.T, tree []impl.Block, n int, p impl.Peer, l impl.Letter, got impl.Peer, out []impl.Letter) {
	t.Helper()
	fault := func(what string) {
		t.Helper()
		t.Fatalf("%s: of %+v %s makes\n%s, %+v", what, l, brief(p), brief(got), out)
	}
	votes, enough := 0, 0
	for _, o := range out {
		switch {
		case o.From != p.Id:
			fault("it speaks for another one")
		case o.Kind == impl.LtVote:
			votes++
		case o.Kind == impl.LtQc:
			enough++
		}
	}
	if votes == 0 && got.Last != p.Last {
		fault("it voted, and said nothing")
	}
	if votes > 1 || votes == 1 && len(out) != 1 {
		fault("it gave more than a vote")
	}
	if votes == 1 {
		v := out[0].Vote
		switch {
		case v != got.Last || v.By != p.Id || v.View != l.View || out[0].To != plainLeader(l.View, n):
			fault("the vote is not its own")
		case v.View < p.Last.View || v.View == p.Last.View && v.Phase <= p.Last.Phase:
			fault("the vote is not above the last one")
		case v.Phase == impl.PhOne && (l.Kind != impl.LtBlock || v.Block != l.Block || !plainSafeBlock(tree, p.Lock, v.Block)):
			fault("the block is not safe")
		case v.Phase != impl.PhOne && (l.Kind != impl.LtQc || l.Qc.Phase != v.Phase-1 || l.Qc.Block != v.Block || !plainQcRight(tree, n, l.Qc)):
			fault("too few voted one Phase before")
		}
	}
	if got.View < p.View || got.High.View < p.High.View || got.Lock.View < p.Lock.View || got.High.View == p.High.View && got.High != p.High || got.Lock.View == p.Lock.View && got.Lock != p.Lock {
		fault("View, High or Lock falls")
	}
	if !plainBeginning(p.Row, got.Row) || got.Id != p.Id || got.Shown != p.Shown {
		fault("the Row does not begin as it did")
	}
	if plainSaidTwice(got.Votes) {
		fault("it took two votes of one")
	}
	if enough == 0 {
		return
	}
	q := out[0].Qc
	if enough != n || len(out) != n || len(got.Votes) != len(p.Votes)+1 || plainCount(plainSigners(got.Votes, q.Phase, q.View, q.Block)) != plainQuorum(n) || plainCount(q.Signers) != plainQuorum(n) || l.Kind != impl.LtVote || l.Vote.Block != q.Block || l.Vote.Phase != q.Phase {
		fault("not just enough gave a vote")
	}
	for to, o := range out {
		if o.To != to || o.Qc != q || o.View != q.View || !plainLetterOk(tree, n, o) {
			fault("the Qc is not said to each")
		}
	}
}

// Promise 11: letters come in a drawn order, twice and late, and some of them nobody would send.
func TestAReplicaVotesForNothingThatIsNotSafe(t *testing.T) {
	draw := drawn(17)
	unsafe, voted, told := 0, 0, 0
	for n := 1; n <= impl.MaxPeers; n++ {
		tree := askTree(n)
		letters := allKinds(tree, n)
		for k := 1; k < len(tree); k++ {
			for from := range n {
				for phase := impl.PhOne; phase <= impl.PhChain; phase++ {
					letters = append(letters, votedTo(tree, phase, k, from, plainLeader(tree[k].View, n)), votedTo(tree, phase, k, from, plainLeader(tree[k].View+1, n)))
				}
				letters = append(letters, newsTo(from, plainLeader(tree[k].View, n), tree[k].View, impl.Qc{}))
			}
		}
		slices.SortStableFunc(letters, func(a, b impl.Letter) int { return a.View - b.View })
		for range 60 {
			id := draw(n)
			p := impl.PeerNew(id)
			var gave []impl.Vote
			said := map[impl.Qc]bool{}
			at := 0
			for at < len(letters) {
				l := letters[max(0, at-draw(20)*draw(2))]
				at += 1 + draw(4)
				if draw(8) > 0 {
					l.To = id
				}
				got, out := impl.AskHear(tree, n, p, l)
				holdAskPromise(t, tree, n, p, l, got, out)
				if l.Kind == impl.LtBlock && got.View > p.View && len(out) == 0 {
					unsafe++
				}
				if len(out) > 0 && out[0].Kind == impl.LtVote {
					gave = append(gave, out[0].Vote)
					voted++
				}
				if len(out) > 0 && out[0].Kind == impl.LtQc {
					q := out[0].Qc
					if q.Signers = 0; said[q] {
						t.Fatalf("the Qc of %+v is said twice", q)
					}
					said[q] = true
					told++
				}
				p = got
			}
			if plainSaidTwice(gave) {
				t.Fatalf("it says two things: %v", gave)
			}
		}
	}
	if unsafe < 100 || voted < 1000 || told < 30 {
		t.Errorf("only %d blocks are not safe, %d votes are given, %d Qcs are told", unsafe, voted, told)
	}
}

// askHall is several replicas that are asked three times, some of whom lie; what liars say is right, and tells of no vote that others did not give.
type askHall struct {
	n, liars int
	tree     []impl.Block
	peers    []impl.Peer
	pool     []impl.Letter
	votes    []impl.Vote
	draw     func(int) int
}

func (h *askHall) lies(id int) bool { return id < h.liars }

func (h *askHall) toEach(l impl.Letter, one int) {
	for to := range h.n {
		if h.draw(one) == 0 {
			l.To = to
			h.pool = append(h.pool, l)
		}
	}
}

func (h *askHall) put(b impl.Block) int {
	tree, k := impl.PutBlock(h.tree, b)
	h.tree = tree
	return k
}

// hears is what a replica that does not lie makes of a letter, which is held against the promise.
func (h *askHall) hears(t *testing.T, l impl.Letter) {
	p := h.peers[l.To]
	got, out := impl.AskHear(h.tree, h.n, p, l)
	holdAskPromise(t, h.tree, h.n, p, l, got, out)
	for _, o := range out {
		if o.Kind == impl.LtVote {
			h.votes = append(h.votes, o.Vote)
		}
	}
	h.peers[l.To] = got
	h.pool = append(h.pool, out...)
}

// shows is what a leader does once it heard of enough others.
func (h *askHall) shows(id int) {
	p := h.peers[id]
	if plainLeader(p.View, h.n) != id || p.Shown >= p.View || p.View > 1 && len(p.News) < plainQuorum(h.n) {
		return
	}
	best := p.High
	for _, l := range p.News {
		if l.Qc.View > best.View {
			best = l.Qc
		}
	}
	k := h.put(impl.Block{Parent: best.Block, View: p.View, Cmds: []impl.Cmd{set(string([]byte{byte('a' + h.draw(3))}), h.draw(100))}, Just: best})
	if k < 0 {
		return
	}
	h.peers[id].Shown = p.View
	h.toEach(shownTo(h.tree, h.n, k, 0), 1)
}

func (h *askHall) goesOn(id int) {
	p := impl.Entered(h.peers[id], h.peers[id].View+1)
	h.peers[id] = p
	h.pool = append(h.pool, impl.Answered(p, impl.LtView, plainLeader(p.View, h.n), p.High, impl.Vote{}))
}

// known are Qcs that liars can tell of: with votes that were given, and their own.
func (h *askHall) known() []impl.Qc {
	out := []impl.Qc{{}}
	for k := 1; k < len(h.tree); k++ {
		for phase := impl.PhOne; phase <= impl.PhThree; phase++ {
			q := impl.Qc{Phase: phase, View: h.tree[k].View, Block: k, Signers: plainSigners(h.votes, phase, h.tree[k].View, k) | (1<<h.liars - 1)}
			if plainCount(q.Signers) >= plainQuorum(h.n) {
				out = append(out, q)
			}
		}
	}
	return out
}

// lie says something in the name of one that lies: blocks beside one another, votes for all of them, Qcs to some, old news.
func (h *askHall) lie(top int) {
	id, known := h.draw(h.liars), h.known()
	q := known[h.draw(len(known))]
	switch h.draw(4) {
	case 0:
		view := top + h.draw(3)
		if plainLeader(view, h.n) != id {
			return
		}
		for range 2 {
			if k := h.put(impl.Block{Parent: q.Block, View: view, Cmds: []impl.Cmd{set("x", h.draw(50))}, Just: q}); k > 0 {
				h.toEach(shownTo(h.tree, h.n, k, 0), 2)
			}
		}
	case 1:
		k := h.draw(len(h.tree))
		h.toEach(votedTo(h.tree, 1+h.draw(4), k, id, 0), 2)
	case 2:
		if q.View > 0 && plainLeader(q.View, h.n) == id {
			h.toEach(impl.Letter{Kind: impl.LtQc, From: id, View: q.View, Qc: q}, 2)
		}
	case 3:
		h.toEach(newsTo(id, 0, q.View+1+h.draw(4), q), 2)
	}
}

func (h *askHall) step(t *testing.T) {
	top := 0
	for id := h.liars; id < h.n; id++ {
		h.shows(id)
		top = max(top, h.peers[id].View)
	}
	if h.liars > 0 && h.draw(3) == 0 {
		h.lie(top)
	}
	if len(h.pool) == 0 || h.draw(60) == 0 {
		for id := h.liars; id < h.n; id++ {
			if h.peers[id].View < top || h.draw(3) > 0 {
				h.goesOn(id)
			}
		}
		return
	}
	if id := h.liars + h.draw(h.n-h.liars); h.draw(80) == 0 {
		h.peers[id] = impl.Fallen(h.tree, h.peers[id])
	}
	at := h.draw(min(len(h.pool), 3*h.n))
	l := h.pool[at]
	if h.draw(10) > 0 {
		h.pool = slices.Delete(h.pool, at, at+1)
	}
	if !h.lies(l.To) && h.draw(25) > 0 {
		h.hears(t, l)
	}
}

// Promise 11, of all together: whoever lies, no two let through what clashes, and nobody says two things.
func TestAskedThreeTimesRowsAgree(t *testing.T) {
	through, longest := 0, 0
	for seed := range uint32(120) {
		n := []int{1, 4, 4, 5, 7, 7}[seed%6]
		h := &askHall{n: n, liars: (n - 1) / 3, tree: impl.TreeNew(), draw: drawn(seed * 977)}
		if seed%4 == 3 {
			h.liars = 0
		}
		for id := range n {
			h.peers = append(h.peers, impl.PeerNew(id))
		}
		for range 700 {
			h.step(t)
		}
		if plainSaidTwice(h.votes) {
			t.Fatalf("seed %d: one said two things", seed)
		}
		for id := h.liars; id < n; id++ {
			row := h.peers[id].Row
			through, longest = through+len(row), max(longest, len(row))
			if !slices.Equal(h.peers[id].Cells, plainRowCells(h.tree, row)) || !plainPeerOk(h.tree, n, h.peers[id]) {
				t.Fatalf("seed %d: %d is not right: %s", seed, id, brief(h.peers[id]))
			}
			for other := h.liars; other < n; other++ {
				if o := h.peers[other].Row; !plainBeginning(row, o) && !plainBeginning(o, row) {
					t.Fatalf("seed %d: %d has %v, %d has %v", seed, id, row, other, o)
				}
			}
		}
	}
	if through < 500 || longest < 5 {
		t.Errorf("only %d go through, %d in a row", through, longest)
	}
}

// When all is well, a block is asked for three times, and goes through at each one.
func TestABlockGoesThroughInThreePhases(t *testing.T) {
	for n := 1; n <= impl.MaxPeers; n++ {
		tree := askTree(n)
		var peers []impl.Peer
		for id := range n {
			peers = append(peers, impl.PeerNew(id))
		}
		kinds := map[int]int{}
		pool := []impl.Letter{}
		for to := range n {
			pool = append(pool, shownTo(tree, n, 1, to))
		}
		for len(pool) > 0 {
			l := pool[0]
			p, out := impl.AskHear(tree, n, peers[l.To], l)
			kinds[l.Kind]++
			peers[l.To], pool = p, append(pool[1:], out...)
		}
		for id, p := range peers {
			want := impl.Peer{Id: id, View: 2, High: p.High, Lock: p.Lock, Last: impl.Vote{Phase: impl.PhThree, View: 1, Block: 1, By: id}, Row: []int{1}, Cells: []impl.Cell{{Key: "a", Num: 5}}, News: p.News}
			if !samePeer(p, want) || p.High.Phase != impl.PhOne || p.Lock.Phase != impl.PhTwo || p.High.Block != 1 || p.Lock.Block != 1 || len(p.News) != n*max(0, 1-id) {
				t.Errorf("among %d: %+v", n, p)
			}
		}
		if kinds[impl.LtBlock] != n || kinds[impl.LtVote] != 3*n || kinds[impl.LtQc] != 3*n || kinds[impl.LtView] != n {
			t.Errorf("among %d: %v letters of each Kind", n, kinds)
		}
	}
}

// hearAnswer is what AskHear or LeadHear answered.
type hearAnswer struct {
	p   impl.Peer
	out []impl.Letter
}

// hearAnswers are what both functions make of letters of each Kind: such as are heard, and such as are not.
func hearAnswers(tree []impl.Block, n int, p impl.Peer) []hearAnswer {
	var out []hearAnswer
	if len(tree) < 9 {
		return out
	}
	letters := []impl.Letter{{}, newsTo(0, p.Id, p.View, impl.Qc{}), newsTo(3, p.Id, p.View+1, impl.Qc{})}
	for _, k := range []int{3, 4, 6, 7, 8} {
		letters = append(letters, shownTo(tree, n, k, p.Id))
		for phase := impl.PhOne; phase <= impl.PhChain; phase++ {
			letters = append(letters, enoughTo(tree, n, phase, k, p.Id), votedTo(tree, phase, k, 3, p.Id))
		}
	}
	for _, l := range letters {
		asked, said := impl.AskHear(tree, n, p, l)
		lead, toAll := impl.LeadHear(tree, n, p, l)
		out = append(out, hearAnswer{asked, said}, hearAnswer{lead, toAll})
	}
	return out
}

// hearers are replicas to whom something comes, as leaders and as others.
func hearers() []impl.Peer {
	tree := askTree(4)
	var out []impl.Peer
	for id := range 4 {
		for _, view := range []int{1, 3, 4, 7, 8} {
			p := inView(id, view)
			p.Row = plainRowTo(tree, id)
			p.Cells = plainRowCells(tree, p.Row)
			p = plainTooEarly(tree, p, 4)
			p.Votes = slices.Concat(votesOf(impl.PhOne, view, 4, 3), votesOf(impl.PhTwo, view, 8, 5), votesOf(impl.PhChain, view-1, 3, 3))
			out = append(out, p)
		}
	}
	return append(out, impl.PeerNew(1), inView(2, 8), impl.Peer{})
}

func TestHearArgumentsStay(t *testing.T) {
	for _, tree := range append(wrongTrees()[:6], askTree(4), letterTree(4), fullTree(), nil) {
		whole, front := roomyTree(tree)
		was := wholeTree(whole)
		for _, p := range hearers() {
			asked := ownMemory(p)
			askedWas := wholePeer(asked)
			for _, l := range allKinds(tree, 4) {
				// What stands in the spare room is not looked at, nor told.
				want, said := plainAsk(tree, 4, p, l)
				holdAsk(t, front, 4, asked, l, want, said...)
				lead, toAll := plainLead(tree, 4, p, l)
				holdLead(t, front, 4, asked, l, lead, toAll...)
			}
			impl.Answered(asked, impl.LtVote, 1, asked.High, asked.Last)
			for _, got := range hearAnswers(front, 4, asked) {
				soilPeer(got.p)
				soilLetters(got.out)
			}
			if !samePeer(wholePeer(asked), askedWas) {
				t.Fatalf("the replica is changed: %s, was %s", brief(wholePeer(asked)), brief(askedWas))
			}
		}
		if !sameTree(wholeTree(whole), was) {
			t.Fatalf("the tree is changed: %s, was %s", brief(whole), brief(was))
		}
	}
}

// soilLetters writes over all letters, and the spare room behind them.
func soilLetters(letters []impl.Letter) {
	for i := range letters[:cap(letters)] {
		letters[:cap(letters)][i] = impl.Letter{Kind: -9}
	}
}

// What is written into an argument, or into another answer, later is not seen in an answer.
func TestHearAnswersNewMemory(t *testing.T) {
	tree := askTree(4)
	for _, p := range hearers() {
		for i := range hearAnswers(tree, 4, p) {
			_, front := roomyTree(tree)
			for _, b := range front {
				for i := range b.Cmds {
					b.Cmds[i].Key = strings.Clone(b.Cmds[i].Key)
				}
			}
			asked := ownMemory(p)
			answers := hearAnswers(front, 4, asked)
			got := answers[i]
			if keys := slices.Concat(keysOf(got.p.Cells, got.p.Undos), keysOf(asked.Cells, asked.Undos), cmdKeys(front)); !ownKeys(keys) {
				t.Fatalf("answer %d: keys stand in one memory, or in an argument's: %s", i, brief(got))
			}
			want := ownMemory(got.p)
			said := slices.Clone(got.out)
			for j, other := range answers {
				if j != i {
					soilPeer(other.p)
					soilLetters(other.out)
				}
			}
			soilPeer(asked)
			soilTree(front)
			if !samePeer(got.p, want) || !slices.Equal(got.out, said) {
				t.Fatalf("answer %d shares memory: %s, was %s", i, brief(got), brief(want))
			}
			// No two lists of one answer share any.
			soilLetters(got.p.News)
			soilNumbers(got.p.Row)
			if !slices.Equal(got.p.Early, want.Early) || !slices.Equal(got.out, said) {
				t.Fatalf("answer %d: two lists share memory", i)
			}
		}
	}
}

// An empty list with spare room is not handed back, either: what grows in the answer later grows elsewhere.
func TestHearAnswersNoSpareRoom(t *testing.T) {
	tree := askTree(4)
	for id := range 4 {
		for view := 1; view <= 9; view++ {
			asked := roomyPeer(impl.Peer{Id: id, View: view})
			for i, got := range hearAnswers(tree, 4, asked) {
				p := got.p
				if p.Row != nil && unsafe.SliceData(p.Row) == unsafe.SliceData(asked.Row) || p.Early != nil && unsafe.SliceData(p.Early) == unsafe.SliceData(asked.Early) || p.Cells != nil && unsafe.SliceData(p.Cells) == unsafe.SliceData(asked.Cells) ||
					p.Undos != nil && unsafe.SliceData(p.Undos) == unsafe.SliceData(asked.Undos) || p.Votes != nil && unsafe.SliceData(p.Votes) == unsafe.SliceData(asked.Votes) || p.News != nil && unsafe.SliceData(p.News) == unsafe.SliceData(asked.News) || got.out != nil && unsafe.SliceData(got.out) == unsafe.SliceData(asked.News) {
					t.Errorf("answer %d has a list of the argument's memory", i)
				}
			}
		}
	}
}

// The same is answered each time.
func TestHearAnswersAreTheSameEachTime(t *testing.T) {
	tree := askTree(4)
	for _, p := range hearers() {
		was := hearAnswers(tree, 4, p)
		for range 5 {
			for i, got := range hearAnswers(tree, 4, p) {
				if !samePeer(got.p, was[i].p) || !slices.Equal(got.out, was[i].out) {
					t.Fatalf("answer %d is %s, was %s", i, brief(got), brief(was[i]))
				}
			}
		}
	}
}

// The chapter 'Ways': phases are constants by iota, and fall through from one to the next in a switch.
func TestPhasesFallThrough(t *testing.T) {
	file, err := parser.ParseFile(token.NewFileSet(), "../impl/l11_ask.go", nil, 0)
	if err != nil {
		t.Fatal(err)
	}
	phases := iotaNames(file)
	if len(phases) < 3 {
		t.Fatalf("only %v are constants by iota", phases)
	}
	found := 0
	ast.Inspect(file, func(n ast.Node) bool {
		if s, ok := n.(*ast.SwitchStmt); ok {
			found += fallsFrom(s, phases)
		}
		return true
	})
	if found == 0 {
		t.Error("no phase falls through to the next one")
	}
}

// iotaNames are the constants of all groups that begin with iota.
func iotaNames(file *ast.File) []string {
	var names []string
	for _, d := range file.Decls {
		group, ok := d.(*ast.GenDecl)
		if !ok || group.Tok != token.CONST {
			continue
		}
		counts := false
		ast.Inspect(group, func(n ast.Node) bool {
			id, ok := n.(*ast.Ident)
			counts = counts || ok && id.Name == "iota"
			return true
		})
		for _, s := range group.Specs {
			if v := s.(*ast.ValueSpec); counts {
				names = append(names, v.Names[0].Name)
			}
		}
	}
	return names
}

// fallsFrom counts the cases of these constants that fall through to one of them that comes next.
func fallsFrom(s *ast.SwitchStmt, phases []string) int {
	found := 0
	for i, c := range s.Body.List[:max(len(s.Body.List)-1, 0)] {
		here, next := c.(*ast.CaseClause), s.Body.List[i+1].(*ast.CaseClause)
		if len(here.Body) == 0 || len(here.List) == 0 || len(next.List) == 0 {
			continue
		}
		from, ok := here.List[len(here.List)-1].(*ast.Ident)
		to, too := next.List[0].(*ast.Ident)
		last, falls := here.Body[len(here.Body)-1].(*ast.BranchStmt)
		if ok && too && falls && last.Tok == token.FALLTHROUGH && slices.Index(phases, from.Name) >= 0 && slices.Index(phases, to.Name) == slices.Index(phases, from.Name)+1 {
			found++
		}
	}
	return found
}
