package tests

import (
	"go/ast"
	"go/parser"
	"go/token"
	"math"
	"slices"
	"strings"
	"testing"

	"loop.example/g00330/impl"
)

// The plain ones are the chapter's own words, sentence by sentence.
func plainEventOk(e impl.Event) bool {
	if e.Kind < 1 || e.Kind > 11 || e.At < 0 || e.To < 0 || e.Num < 0 {
		return false
	}
	if e.Kind == 1 || e.Kind == 10 {
		return impl.CmdOk(e.Cmd)
	}
	return e.Cmd == impl.Cmd{}
}

func plainLifePhase(c impl.Cluster, num int) int {
	if c.Chain {
		return 4
	}
	return 1 + num%3
}

// plainBlockOfLie tells, too, whether there is such a block: a Just for it, and a View that is a number.
func plainBlockOfLie(c impl.Cluster, e impl.Event) (impl.Block, bool) {
	b := impl.Block{Parent: e.Num % len(c.Tree), Cmds: []impl.Cmd{e.Cmd}}
	if b.Parent > 0 {
		q, enough := plainLieQc(c, plainLifePhase(c, 0), b.Parent)
		if !enough {
			return impl.Block{}, false
		}
		b.Just = q
	}
	below := plainFarthest(c.Peers)
	if e.Num%2 == 1 {
		below = c.Tree[b.Parent].View
	}
	b.View = below + 1
	return b, below < math.MaxInt
}

func plainLied(c impl.Cluster, e impl.Event) (impl.Cluster, bool) {
	if e.Kind == 11 {
		return plainHandLetter(c, newsTo(e.At, e.To, e.Num%900+1, impl.Qc{}))
	}
	if len(c.Tree) == 0 {
		return c, false
	}
	k, phase := e.Num%len(c.Tree), plainLifePhase(c, e.Num)
	switch e.Kind {
	case 8:
		return plainHandLetter(c, plainLieVote(c, e.At, e.To, phase, k))
	case 9:
		q, enough := plainLieQc(c, phase, k)
		if !enough {
			return c, false
		}
		return plainHandLetter(c, impl.Letter{Kind: 3, From: e.At, To: e.To, View: q.View, Qc: q})
	}
	b, there := plainBlockOfLie(c, e)
	if !there {
		return c, false
	}
	put, at := plainHandBlock(c, b)
	if at == -1 {
		return c, false
	}
	return plainHandLetter(put, impl.Letter{Kind: 1, From: e.At, To: e.To, View: b.View, Block: at, Qc: b.Just})
}

func plainStep(c impl.Cluster, e impl.Event) (impl.Cluster, bool) {
	if !plainEventOk(e) {
		return c, false
	}
	switch e.Kind {
	case 1:
		return plainOffer(c, e.Cmd)
	case 2:
		return plainShowBlock(c, e.At)
	case 3:
		return plainCarryAt(c, e.At)
	case 4:
		return plainLoseAt(c, e.At)
	case 5:
		return plainTwiceAt(c, e.At)
	case 6:
		return plainWaitOut(c, e.At)
	case 7:
		return plainFallAt(c, e.At)
	}
	next, ok := plainLied(c, e)
	if !ok {
		return c, false
	}
	return next, true
}

func plainRun(n int, chain bool, liars int, events []impl.Event) (impl.Cluster, []int, bool) {
	c, ok := plainClusterNew(n, chain, liars)
	if !ok || len(events) > 120 {
		return impl.Cluster{}, nil, false
	}
	var codes []int
	for _, e := range events {
		if !plainEventOk(e) {
			return impl.Cluster{}, nil, false
		}
		next, was := plainStep(c, e)
		c, codes = next, append(codes, map[bool]int{true: 1}[was])
	}
	return c, codes, true
}

// byItsChapter does what an event does by the functions of the other chapters.
func byItsChapter(c impl.Cluster, e impl.Event) (impl.Cluster, bool) {
	switch e.Kind {
	case impl.EvOffer:
		return impl.Offer(c, e.Cmd)
	case impl.EvShow:
		return impl.ShowBlock(c, e.At)
	case impl.EvCarry:
		return impl.CarryAt(c, e.At)
	case impl.EvLose:
		return impl.LoseAt(c, e.At)
	case impl.EvTwice:
		return impl.TwiceAt(c, e.At)
	case impl.EvWait:
		return impl.WaitOut(c, e.At)
	case impl.EvFall:
		return impl.FallAt(c, e.At)
	case impl.EvLieView:
		return impl.HandLetter(c, newsTo(e.At, e.To, 1+e.Num%impl.MaxView, impl.Qc{}))
	case impl.EvLieVote:
		return impl.HandLetter(c, impl.LieVote(c, e.At, e.To, plainLifePhase(c, e.Num), e.Num%len(c.Tree)))
	case impl.EvLieQc:
		q, enough := impl.LieQc(c, plainLifePhase(c, e.Num), e.Num%len(c.Tree))
		if !enough {
			return c, false
		}
		return impl.HandLetter(c, impl.Letter{Kind: impl.LtQc, From: e.At, To: e.To, View: q.View, Qc: q})
	}
	b, there := plainBlockOfLie(c, e)
	next, k := impl.HandBlock(c, b)
	if !there || k == -1 {
		return c, false
	}
	if next, ok := impl.HandLetter(next, impl.Letter{Kind: impl.LtBlock, From: e.At, To: e.To, View: b.View, Block: k, Qc: b.Just}); ok {
		return next, true
	}
	return c, false
}

var eventNames = []string{"none", "offer", "show", "carry", "lose", "twice", "wait", "fall", "vote", "qc", "block", "view"}

func stepping(e impl.Event) deed {
	name := "none"
	if plainEventOk(e) {
		name = eventNames[e.Kind]
	}
	return deed{name + " " + brief(e),
		func(c impl.Cluster) (impl.Cluster, bool) { return impl.StepCluster(c, e) },
		func(c impl.Cluster) (impl.Cluster, bool) { return plainStep(c, e) }}
}

func eventAt(kind int, place int) impl.Event { return impl.Event{Kind: kind, At: place} }

func lying(kind int, from int, to int, num int) impl.Event {
	return impl.Event{Kind: kind, At: from, To: to, Num: num}
}

func lyingBlock(from int, to int, num int, x impl.Cmd) impl.Event {
	return impl.Event{Kind: impl.EvLieBlock, At: from, To: to, Num: num, Cmd: x}
}

// rightCmdOf is one that an event of this Kind may have.
func rightCmdOf(kind int) impl.Cmd {
	if kind == impl.EvOffer || kind == impl.EvLieBlock {
		return set("a", 1)
	}
	return impl.Cmd{}
}

// stepped holds an event that is done.
func stepped(t *testing.T, c impl.Cluster, e impl.Event) impl.Cluster {
	t.Helper()
	return after(t, c, stepping(e))
}

// notStepped holds events that are not: all is as it was.
func notStepped(t *testing.T, c impl.Cluster, events ...impl.Event) {
	t.Helper()
	for _, e := range events {
		holdDeed(t, c, stepping(e))
		holdRefused(t, c, stepping(e))
	}
}

func holdRun(t *testing.T, n int, chain bool, liars int, events []impl.Event) (impl.Cluster, []int) {
	t.Helper()
	got, codes, ok := impl.RunCluster(n, chain, liars, events)
	want, wantCodes, wantOk := plainRun(n, chain, liars, events)
	if ok != wantOk || !slices.Equal(codes, wantCodes) || !sameCluster(got, want) {
		t.Fatalf("RunCluster(%d, %v, %d, %s) is\n%+v, %v, %v, want\n%+v, %v, %v", n, chain, liars, brief(events), got, codes, ok, want, wantCodes, wantOk)
	}
	return got, codes
}

// notRun holds what is refused: false, and nothing.
func notRun(t *testing.T, n int, chain bool, liars int, events []impl.Event) {
	t.Helper()
	if got, codes, ok := impl.RunCluster(n, chain, liars, events); ok || len(codes) != 0 || !sameCluster(got, impl.Cluster{}) {
		t.Fatalf("RunCluster(%d, %v, %d, %s) is\n%+v, %v, %v", n, chain, liars, brief(events), got, codes, ok)
	}
}

func holdEventOk(t *testing.T, e impl.Event, want bool) {
	t.Helper()
	if impl.EventOk(e) != want {
		t.Fatalf("EventOk of %+v is %v", e, !want)
	}
	// One that is not right does nothing, anywhere.
	if !want {
		for _, c := range []impl.Cluster{handHall(), {}} {
			notStepped(t, c, e)
		}
		notRun(t, 4, true, 8, []impl.Event{e})
	}
}

func TestEventOk(t *testing.T) {
	for kind := -3; kind < 16; kind++ {
		e := impl.Event{Kind: kind, Cmd: rightCmdOf(kind)}
		holdEventOk(t, e, kind >= 1 && kind <= 11)
		e.At, e.To, e.Num = 3, 4, 5
		holdEventOk(t, e, kind >= 1 && kind <= 11)
	}
	for _, kind := range []int{math.MinInt, math.MinInt + 1, -11, 12, 255, 256 + 1, 1 << 32, 1<<32 + 2, math.MaxInt - 1, math.MaxInt} {
		for _, x := range []impl.Cmd{{}, set("a", 1)} {
			holdEventOk(t, impl.Event{Kind: kind, Cmd: x}, false)
		}
	}
	for kind := impl.EvOffer; kind <= impl.EvLieView; kind++ {
		// Each number by itself, and then all of them.
		for _, num := range fieldNumbers() {
			e := impl.Event{Kind: kind, Cmd: rightCmdOf(kind)}
			for _, turn := range []func(*impl.Event){
				func(e *impl.Event) { e.At = num }, func(e *impl.Event) { e.To = num }, func(e *impl.Event) { e.Num = num },
				func(e *impl.Event) { e.At, e.To, e.Num = num, num, num },
				func(e *impl.Event) { e.At, e.To, e.Num = 7, num, impl.MaxView }, func(e *impl.Event) { e.At, e.To, e.Num = -1, num, num },
			} {
				other := e
				turn(&other)
				holdEventOk(t, other, num >= 0 && other.At >= 0)
			}
		}
	}
}

func TestEventOkOfCmds(t *testing.T) {
	for kind := impl.EvOffer; kind <= impl.EvLieView; kind++ {
		has := kind == impl.EvOffer || kind == impl.EvLieBlock
		holdEventOk(t, impl.Event{Kind: kind}, !has)
		for _, x := range rightCmds() {
			holdEventOk(t, impl.Event{Kind: kind, Cmd: x}, has)
		}
		for i, x := range wrongCmds() {
			if x != (impl.Cmd{}) && (i%9 == kind%9 || i < 12) {
				holdEventOk(t, impl.Event{Kind: kind, Cmd: x}, false)
			}
		}
		// One field alone is not nothing.
		for _, x := range []impl.Cmd{{Kind: 1}, {Kind: -1}, {Kind: math.MinInt}, {Key: "a"}, {Key: "\x00"}, {Key: "A"}, {Num: 1}, {Num: -1}, {Num: impl.MaxNumber}, {Kind: 1, Num: 1}, {Kind: 3, Key: ""}, {Key: "a", Num: 1}} {
			holdEventOk(t, impl.Event{Kind: kind, Cmd: x}, false)
		}
	}
}

// The events of seven Kinds do what the other chapters' functions of that place do; To and Num are not asked.
func TestStepClusterOfAPlace(t *testing.T) {
	kinds := map[int]func(int) deed{impl.EvShow: showing, impl.EvCarry: carrying, impl.EvLose: losing, impl.EvTwice: doubling, impl.EvWait: waiting, impl.EvFall: falling}
	done, refused := map[int]int{}, map[int]int{}
	for _, chain := range []bool{false, true} {
		clusters := wellUsed(t, chain, 6, 70)
		for i := range 40 {
			// Here 0 is Ready.
			c := newCluster(t, 1+i%7, chain, 0)
			c.Pending = rightCmds()[i : i+i%7]
			clusters = append(clusters, c)
		}
		for i, c := range clusters {
			c.Net = append(slices.Clone(c.Net), someNews(i%3*max(0, 55-len(c.Net)))...)
			for kind, told := range kinds {
				for _, place := range []int{0, 1, 2, 3, 4, 6, 7, len(c.Net) - 1, len(c.Net), math.MaxInt} {
					e := impl.Event{Kind: kind, At: max(place, 0), To: i, Num: i * 31}
					want, wantOk := told(e.At).done(c)
					got, ok := impl.StepCluster(c, e)
					if ok != wantOk || !sameCluster(got, want) {
						t.Fatalf("%+v of\n%+v\nis\n%+v, %v, want\n%+v, %v", e, c, got, ok, want, wantOk)
					}
					if ok {
						done[kind]++
					} else {
						refused[kind]++
					}
				}
			}
		}
	}
	for kind := range kinds {
		if done[kind] < 30 || refused[kind] < 30 {
			t.Errorf("%s is done %d times, refused %d times", eventNames[kind], done[kind], refused[kind])
		}
	}
}

func TestStepClusterOfEachKind(t *testing.T) {
	for _, chain := range []bool{false, true} {
		c := newCluster(t, 4, chain, 8)
		none := []impl.Event{eventAt(impl.EvCarry, 0), eventAt(impl.EvLose, 0), eventAt(impl.EvTwice, 0), eventAt(impl.EvShow, 1), eventAt(impl.EvShow, 3), eventAt(impl.EvShow, 4), eventAt(impl.EvWait, 3), eventAt(impl.EvWait, 4), eventAt(impl.EvFall, 3), eventAt(impl.EvFall, 4)}
		notStepped(t, c, none...)
		// What stands in To and Num does not count.
		got := stepped(t, c, impl.Event{Kind: impl.EvOffer, At: 9, To: 9, Num: 9, Cmd: add("ab", 7)})
		if !slices.Equal(got.Pending, []impl.Cmd{add("ab", 7)}) {
			t.Fatalf("Pending are %+v", got.Pending)
		}
		got = stepped(t, got, impl.Event{Kind: impl.EvShow, To: 3, Num: 5})
		if len(got.Tree) != 2 || len(got.Net) != 4 || len(got.Pending) != 0 {
			t.Fatalf("shown: %+v", got)
		}
		notStepped(t, got, eventAt(impl.EvShow, 0), eventAt(impl.EvCarry, 4), eventAt(impl.EvLose, 4), eventAt(impl.EvTwice, 4))
		// 2 hears, and votes; the letter to 3 comes twice; that to 1 is lost.
		got = stepped(t, got, eventAt(impl.EvCarry, 2))
		got = stepped(t, got, eventAt(impl.EvTwice, 2))
		got = stepped(t, got, eventAt(impl.EvLose, 1))
		var to []int
		for _, l := range got.Net {
			to = append(to, l.Kind*10+l.To)
		}
		if !slices.Equal(to, []int{10, 13, 20, 13}) || len(got.Said) != 1 || got.Said[0].By != 2 {
			t.Fatalf("letters %v, said %v", to, got.Said)
		}
		got = stepped(t, got, eventAt(impl.EvWait, 1))
		if got.Peers[1].View != 2 || got.Net[4] != newsTo(1, 0, 2, impl.Qc{}) {
			t.Fatalf("waited: %+v", got)
		}
		got.Peers[2].News = someNews(2)
		got = stepped(t, got, eventAt(impl.EvFall, 2))
		if len(got.Peers[2].News) != 0 || got.Peers[2].Last != got.Said[0] {
			t.Fatalf("fell: %+v", got)
		}
		// Limits: MaxPending, MaxNet, MaxView.
		full := withNet(c, someNews(impl.MaxNet)...)
		full.Pending = slices.Repeat([]impl.Cmd{set("a", 1)}, impl.MaxPending)
		full = withPeerAt(full, 1, impl.Peer{Id: 1, View: impl.MaxView})
		notStepped(t, full, impl.Event{Kind: impl.EvOffer, Cmd: set("a", 1)}, eventAt(impl.EvShow, 0), eventAt(impl.EvTwice, 0), eventAt(impl.EvWait, 1))
	}
}

// withLetter is what is there when a lie was put in.
func withLetter(c impl.Cluster, l impl.Letter) impl.Cluster {
	c.Net = slices.Concat(c.Net, []impl.Letter{l})
	return c
}

func TestLieOfAVote(t *testing.T) {
	for _, chain := range []bool{false, true} {
		c := handHall()
		c.Chain = chain
		for num := range 30 {
			e := lying(impl.EvLieVote, 3, 1, num)
			k, phase := num%4, 1+num%3
			if chain {
				phase = impl.PhChain
			}
			if k == 0 {
				// Nobody votes for the first block.
				notStepped(t, c, e)
				continue
			}
			view := []int{0, 1, 1, 2}[k]
			holdMade(t, c, stepping(e), withLetter(c, impl.Letter{Kind: impl.LtVote, From: 3, To: 1, View: view, Vote: impl.Vote{Phase: phase, View: view, Block: k, By: 3}}))
		}
		// By hand: the greatest number is 3 modulo 4, and 1 modulo 3.
		got := stepped(t, c, lying(impl.EvLieVote, 3, 2, math.MaxInt))
		if v := got.Net[0].Vote; v.Block != 3 || !chain && v.Phase != impl.PhTwo || chain && v.Phase != impl.PhChain {
			t.Errorf("with chain %v the greatest number is %+v", chain, got.Net[0])
		}
		// The tree's number of blocks is the first one, one more is the next one.
		notStepped(t, c, lying(impl.EvLieVote, 3, 1, 4), lying(impl.EvLieVote, 3, 1, 8))
		if got := stepped(t, c, lying(impl.EvLieVote, 3, 1, 5)); got.Net[0].Vote.Block != 1 {
			t.Errorf("one more than the tree is %+v", got.Net[0])
		}
		notStepped(t, newCluster(t, 4, chain, 8), lying(impl.EvLieVote, 3, 0, 0), lying(impl.EvLieVote, 3, 0, 1), lying(impl.EvLieVote, 3, 0, math.MaxInt))
	}
}

func TestLieOfAQc(t *testing.T) {
	c := handHall()
	for num := range 48 {
		e := lying(impl.EvLieQc, 3, num%4, num)
		switch num % 12 {
		case 1:
			holdMade(t, c, stepping(e), withLetter(c, impl.Letter{Kind: impl.LtQc, From: 3, To: num % 4, View: 1, Qc: signedBy(c.Tree, impl.PhTwo, 1, 15)}))
		case 9:
			holdMade(t, c, stepping(e), withLetter(c, impl.Letter{Kind: impl.LtQc, From: 3, To: num % 4, View: 1, Qc: signedBy(c.Tree, impl.PhOne, 1, 11)}))
		default:
			// There is no LieQc of PhThree, of block 2 or 3.
			notStepped(t, c, e)
		}
	}
	c.Said = append(c.Said, votesOf(impl.PhThree, 1, 1, 3)...)
	holdMade(t, c, stepping(lying(impl.EvLieQc, 3, 0, 5)), withLetter(c, impl.Letter{Kind: impl.LtQc, From: 3, View: 1, Qc: signedBy(c.Tree, impl.PhThree, 1, 11)}))
	// With chain there is one Phase, whatever Num is, and no vote of it.
	c.Chain = true
	for num := range 48 {
		notStepped(t, c, lying(impl.EvLieQc, 3, 0, num))
	}
	c.Said = append(votesOf(impl.PhChain, 2, 3, 3), votesOf(impl.PhChain, 1, 1, 6)...)
	for num := range 48 {
		e := lying(impl.EvLieQc, 3, 0, num)
		switch num % 4 {
		case 1:
			holdMade(t, c, stepping(e), withLetter(c, impl.Letter{Kind: impl.LtQc, From: 3, View: 1, Qc: signedBy(c.Tree, impl.PhChain, 1, 14)}))
		case 3:
			holdMade(t, c, stepping(e), withLetter(c, impl.Letter{Kind: impl.LtQc, From: 3, View: 2, Qc: signedBy(c.Tree, impl.PhChain, 3, 11)}))
		default:
			notStepped(t, c, e)
		}
	}
	if got := stepped(t, c, lying(impl.EvLieQc, 3, 2, math.MaxInt)); got.Net[0].Qc.Block != 3 {
		t.Errorf("the greatest number is %+v", got.Net[0])
	}
}

// lieBlockTo is the letter by which 3 shows a block, whoever leads its View.
func lieBlockTo(c impl.Cluster, to int, k int) impl.Letter {
	return impl.Letter{Kind: impl.LtBlock, From: 3, To: to, View: c.Tree[k].View, Block: k, Qc: c.Tree[k].Just}
}

func withBlock(c impl.Cluster, b impl.Block) impl.Cluster {
	c.Tree = append(copyTree(c.Tree), b)
	return c
}

// holdLieBlock holds a lie by which this block comes into the tree, and is shown.
func holdLieBlock(t *testing.T, c impl.Cluster, num int, b impl.Block) impl.Cluster {
	t.Helper()
	x := set("lie", 5)
	b.Cmds = []impl.Cmd{x}
	want := withBlock(c, b)
	want = withLetter(want, lieBlockTo(want, num%4, len(c.Tree)))
	e := lyingBlock(3, num%4, num, x)
	holdDeed(t, c, stepping(e))
	return holdMade(t, c, stepping(e), want)
}

func TestLieOfABlock(t *testing.T) {
	for _, chain := range []bool{false, true} {
		c, phase := handHall(), impl.PhOne
		if chain {
			c.Chain, phase = true, impl.PhChain
			for i := range c.Said {
				c.Said[i].Phase = map[int]int{impl.PhOne: impl.PhChain, impl.PhTwo: impl.PhTwo}[c.Said[i].Phase]
			}
		}
		just := signedBy(c.Tree, phase, 1, 11)
		for num := range 40 {
			switch num % 4 {
			case 0:
				// On the first block, above the greatest View, which is 1: its Just is nothing.
				holdLieBlock(t, c, num, impl.Block{View: 2})
			case 1:
				holdLieBlock(t, c, num, impl.Block{Parent: 1, View: 2, Just: just})
			default:
				// Of block 2 only one vote is there, of block 3 none.
				notStepped(t, c, lyingBlock(3, 0, num, set("lie", 5)))
			}
		}
		notStepped(t, c, lyingBlock(3, 0, math.MaxInt, set("lie", 5)), lyingBlock(3, 0, math.MaxInt-1, set("lie", 5)))
		// All ways of parent and number, when the tree has five blocks: even and odd ones lead to each of them.
		c = withBlock(c, impl.Block{Parent: 1, View: 7, Just: just})
		c.Said = append(c.Said, votesOf(phase, 7, 4, 6)...)
		c = withPeerAt(c, 2, impl.Peer{Id: 2, View: 20})
		for num := range 40 {
			view := 21
			switch num % 10 {
			case 0:
				holdLieBlock(t, c, num, impl.Block{View: view})
			case 5:
				holdLieBlock(t, c, num, impl.Block{View: 1})
			case 6:
				holdLieBlock(t, c, num, impl.Block{Parent: 1, View: view, Just: just})
			case 1:
				holdLieBlock(t, c, num, impl.Block{Parent: 1, View: 2, Just: just})
			case 4:
				holdLieBlock(t, c, num, impl.Block{Parent: 4, View: view, Just: signedBy(c.Tree, phase, 4, 14)})
			case 9:
				holdLieBlock(t, c, num, impl.Block{Parent: 4, View: 8, Just: signedBy(c.Tree, phase, 4, 14)})
			default:
				notStepped(t, c, lyingBlock(3, 0, num, set("lie", 5)))
			}
		}
	}
}

// The Just is of PhOne, or of PhChain, whatever Phase Num gives a vote: votes of the others make none.
func TestLieOfABlockAsksForOnePhase(t *testing.T) {
	for _, chain := range []bool{false, true} {
		want := impl.PhOne
		if chain {
			want = impl.PhChain
		}
		for phase := impl.PhOne; phase <= impl.PhChain; phase++ {
			c := handHall()
			c.Chain, c.Said = chain, votesOf(phase, 1, 1, 7)
			for _, num := range []int{1, 5, 9, 13, 17, 21} {
				if phase == want {
					holdLieBlock(t, c, num, impl.Block{Parent: 1, View: 2, Just: signedBy(c.Tree, phase, 1, 15)})
				} else {
					notStepped(t, c, lyingBlock(3, 0, num, set("lie", 5)))
				}
			}
		}
	}
}

func TestLieOfABlockThatIsThere(t *testing.T) {
	for _, chain := range []bool{false, true} {
		c := newCluster(t, 4, chain, 8)
		c.Tree = []impl.Block{first(), {View: 1, Cmds: []impl.Cmd{set("a", 5)}}, {View: 1}}
		// It is shown, and the tree is as it was; with another Cmd it is another one.
		e := lyingBlock(3, 2, 3, set("a", 5))
		got := holdMade(t, c, stepping(e), withLetter(c, lieBlockTo(c, 2, 1)))
		got = holdMade(t, got, stepping(e), withLetter(got, lieBlockTo(c, 2, 1)))
		if got = stepped(t, got, lyingBlock(3, 2, 3, set("a", 6))); len(got.Tree) != 4 {
			t.Fatalf("another Cmd: %+v", got)
		}
		// A tree that is full takes no more, but has what is there.
		for _, size := range []int{impl.MaxBlocks - 1, impl.MaxBlocks, impl.MaxBlocks + 1} {
			c.Tree = unsigned(size)
			if size < impl.MaxBlocks {
				holdLieBlock(t, c, 0, impl.Block{View: 2})
			} else {
				notStepped(t, c, lyingBlock(3, 1, 0, set("b", 1)))
			}
			// Of an odd size, the size itself leads to the first block, and block 9 is of View 1, just one above that.
			if size%2 == 1 {
				holdMade(t, c, stepping(lyingBlock(3, 1, size, set("a", 9))), withLetter(c, lieBlockTo(c, 1, 9)))
			}
		}
		// Of an even one, what leads to the first block is even: the block one above the greatest View is there.
		c.Tree = unsigned(impl.MaxBlocks)
		for view := 1; view < 9; view++ {
			d := withPeerAt(c, 1, impl.Peer{Id: 1, View: view})
			holdMade(t, d, stepping(lyingBlock(3, 1, 0, set("a", 9+view))), withLetter(d, lieBlockTo(d, 1, 9+view)))
		}
	}
}

// A block that is put, but that may not be told of, is put by nobody: the tree is as it was.
func TestLieOfABlockThatMayNotBeTold(t *testing.T) {
	for _, chain := range []bool{false, true} {
		for _, c := range []impl.Cluster{newCluster(t, 4, chain, 8), allGave(t, letterTree(4), 4, 8)} {
			c.Chain = chain
			for _, num := range []int{0, 1, 9, 16} {
				e := lyingBlock(3, 0, num, set("lie", 5))
				stepped(t, c, e)
				for _, from := range []int{0, 1, 2, 4, 5, 64, math.MaxInt} {
					e.At = from
					notStepped(t, c, e)
				}
				e.At = 3
				for _, to := range []int{4, 5, 64, math.MaxInt} {
					e.To = to
					notStepped(t, c, e)
				}
				e.To = 3
				for _, size := range []int{0, 58, 59, 60, 61, 70} {
					d := withNet(c, someNews(size)...)
					if size < impl.MaxNet {
						stepped(t, d, e)
					} else {
						notStepped(t, d, e)
					}
				}
			}
		}
	}
}

func TestLieOfABlockAboveMaxView(t *testing.T) {
	for _, chain := range []bool{false, true} {
		phase := impl.PhOne
		if chain {
			phase = impl.PhChain
		}
		for _, view := range []int{1, 5, impl.MaxView - 2, impl.MaxView - 1, impl.MaxView, impl.MaxView + 1, math.MaxInt - 1, math.MaxInt} {
			c := newCluster(t, 4, chain, 8)
			// The greatest View may be that of one that lies.
			for _, i := range []int{0, 3} {
				d := withPeerAt(c, i, impl.Peer{Id: i, View: view})
				if view < impl.MaxView {
					holdLieBlock(t, d, 0, impl.Block{View: view + 1})
				} else {
					notStepped(t, d, lyingBlock(3, 0, 0, set("lie", 5)))
				}
				// Just one above the first block there is room.
				holdLieBlock(t, d, 1, impl.Block{View: 1})
			}
			c.Tree = append(c.Tree, impl.Block{View: view})
			c.Said = votesOf(phase, view, 1, 7)
			if view < impl.MaxView {
				holdLieBlock(t, c, 1, impl.Block{Parent: 1, View: view + 1, Just: signedBy(c.Tree, phase, 1, 15)})
			} else {
				notStepped(t, c, lyingBlock(3, 0, 1, set("lie", 5)))
			}
		}
		// Without Peers, or when none has begun, the greatest View is 0, or below.
		c := newCluster(t, 4, chain, 8)
		for _, views := range [][]int{nil, {0}, {0, -5}} {
			c.Peers = ofViews(views...)
			holdLieBlock(t, c, 0, impl.Block{View: 1})
		}
		for _, views := range [][]int{{-1}, {-1, -2}, {math.MinInt, -7}} {
			c.Peers = ofViews(views...)
			notStepped(t, c, lyingBlock(3, 0, 0, set("lie", 5)))
		}
		// A View that has no next one does not come to be below all others, where such a block is, either.
		c = newCluster(t, 4, chain, 8)
		c.Tree = []impl.Block{{Parent: -1, View: math.MaxInt}, {View: math.MinInt, Cmds: []impl.Cmd{set("lie", 5)}}, {View: math.MinInt, Cmds: []impl.Cmd{set("lie", 5)}}}
		notStepped(t, c, lyingBlock(3, 0, 3, set("lie", 5)))
		c.Peers[1].View = math.MaxInt
		notStepped(t, c, lyingBlock(3, 0, 0, set("lie", 5)))
	}
}

func TestLieOfAView(t *testing.T) {
	for _, chain := range []bool{false, true} {
		c := newCluster(t, 4, chain, 8)
		for num, view := range map[int]int{
			0: 1, 1: 2, 2: 3, 7: 8, impl.MaxView - 2: impl.MaxView - 1, impl.MaxView - 1: impl.MaxView, impl.MaxView: 1, impl.MaxView + 1: 2,
			2*impl.MaxView - 1: impl.MaxView, 2 * impl.MaxView: 1, math.MaxInt: 8, math.MaxInt - 8: impl.MaxView, math.MaxInt - 7: 1,
		} {
			for to := range 4 {
				holdMade(t, c, stepping(lying(impl.EvLieView, 3, to, num)), withLetter(c, newsTo(3, to, view, impl.Qc{})))
			}
		}
		// No tree is asked.
		c.Tree = nil
		holdMade(t, c, stepping(lying(impl.EvLieView, 3, 0, 4)), withLetter(c, newsTo(3, 0, 5, impl.Qc{})))
		// It is heard like any other one: with two of the others it makes 0 Ready for View 2.
		c = newCluster(t, 4, chain, 8)
		for _, e := range []impl.Event{eventAt(impl.EvWait, 0), eventAt(impl.EvWait, 1), eventAt(impl.EvCarry, 0), eventAt(impl.EvCarry, 0)} {
			c = stepped(t, c, e)
		}
		notStepped(t, c, eventAt(impl.EvShow, 0))
		c = stepped(t, c, lying(impl.EvLieView, 3, 0, 1))
		c = stepped(t, c, eventAt(impl.EvCarry, 0))
		stepped(t, c, eventAt(impl.EvShow, 0))
	}
}

// Each lie needs one that lies, whom it is to, and room; one that is refused changes nothing.
func TestLiesThatChangeNothing(t *testing.T) {
	for _, n := range []int{4, 5, 7} {
		for _, chain := range []bool{false, true} {
			for _, liars := range someLiars(n) {
				c := allGave(t, letterTree(n), n, liars)
				c.Chain = chain
				for kind := impl.EvLieVote; kind <= impl.EvLieView; kind++ {
					e := impl.Event{Kind: kind, Num: 1, Cmd: rightCmdOf(kind)}
					for _, from := range []int{0, 1, 2, 3, 4, 5, 6, 7, 8, 63, 64, math.MaxInt} {
						for _, to := range []int{0, n - 1, n, math.MaxInt} {
							e.At, e.To = from, to
							if plainLies(c, from) && to < n {
								stepped(t, c, e)
								stepped(t, withNet(c, someNews(impl.MaxNet-1)...), e)
								notStepped(t, withNet(c, someNews(impl.MaxNet)...), e)
							} else {
								notStepped(t, c, e)
							}
						}
					}
				}
			}
		}
	}
	// Whoever lies, of an empty tree only a View is told.
	c := newCluster(t, 4, false, 8)
	c.Tree = nil
	for _, num := range fieldNumbers() {
		notStepped(t, c, lying(impl.EvLieVote, 3, 0, num), lying(impl.EvLieQc, 3, 0, num), lyingBlock(3, 0, num, set("a", 1)))
		if num >= 0 {
			stepped(t, c, lying(impl.EvLieView, 3, 0, num))
		}
	}
	// So many lie that they are enough alone: the first block has a Qc, but no View.
	c = handHall()
	c.Liars, c.Said = 14, nil
	notStepped(t, c, lying(impl.EvLieQc, 3, 0, 0), lying(impl.EvLieQc, 3, 0, 4), lying(impl.EvLieVote, 3, 0, 0))
	holdLieBlock(t, c, 0, impl.Block{View: 2})
	stepped(t, c, lying(impl.EvLieQc, 3, 0, 5))
}

// shortLife is one by hand: each Kind once at least, all true, of four of whom 3 lies, asked three times.
func shortLife() []impl.Event {
	return []impl.Event{
		{Kind: impl.EvOffer, Cmd: set("a", 5)}, eventAt(impl.EvShow, 0), eventAt(impl.EvCarry, 0),
		lying(impl.EvLieVote, 3, 0, 3),
		// That to 2 is lost, 1 hears it; the votes of 0, 3 and 1 come to 0.
		eventAt(impl.EvLose, 1), eventAt(impl.EvCarry, 0), eventAt(impl.EvCarry, 1), eventAt(impl.EvCarry, 1), eventAt(impl.EvCarry, 1),
		lying(impl.EvLieQc, 3, 2, 3), lyingBlock(3, 1, 1, set("b", 7)), lying(impl.EvLieView, 3, 0, 5),
		eventAt(impl.EvWait, 2), eventAt(impl.EvTwice, 0), eventAt(impl.EvFall, 1),
	}
}

func TestRunCluster(t *testing.T) {
	got, codes := holdRun(t, 4, false, 8, shortLife())
	if slices.Contains(codes, 0) || len(codes) != len(shortLife()) {
		t.Errorf("codes are %v", codes)
	}
	enough := signedBy(got.Tree, impl.PhOne, 1, 11)
	if len(got.Tree) != 3 || !plainSame(got.Tree[2], impl.Block{Parent: 1, View: 2, Cmds: []impl.Cmd{set("b", 7)}, Just: enough}) {
		t.Errorf("the tree is %+v", got.Tree)
	}
	block := impl.Letter{Kind: impl.LtBlock, To: 3, View: 1, Block: 1}
	want := []impl.Letter{block}
	for to := range 4 {
		want = append(want, impl.Letter{Kind: impl.LtQc, To: to, View: 1, Qc: enough})
	}
	want = append(want, impl.Letter{Kind: impl.LtQc, From: 3, To: 2, View: 1, Qc: enough}, lieBlockTo(got, 1, 2), newsTo(3, 0, 6, impl.Qc{}), newsTo(2, 0, 2, impl.Qc{}), block)
	if !slices.Equal(got.Net, want) || !slices.Equal(got.Said, votesOf(impl.PhOne, 1, 1, 3)) || got.Liars != 8 || got.N != 4 || got.Chain || len(got.Pending) != 0 {
		t.Errorf("the life comes to %+v", got)
	}
	// No events: a new cluster, and no codes.
	for n := -1; n <= impl.MaxPeers+1; n++ {
		for liars := -1; liars < 1<<impl.MaxPeers+2; liars++ {
			for _, chain := range []bool{false, true} {
				c, codes := holdRun(t, n, chain, liars, nil)
				if made, _ := impl.ClusterNew(n, chain, liars); !sameCluster(c, made) || len(codes) != 0 {
					t.Fatalf("no life of %d with %b: %+v, %v", n, liars, c, codes)
				}
			}
		}
	}
	// Each one that is false is 0, and the others go on.
	_, codes = holdRun(t, 4, true, 8, []impl.Event{eventAt(impl.EvCarry, 0), eventAt(impl.EvShow, 1), eventAt(impl.EvShow, 0), eventAt(impl.EvShow, 0), eventAt(impl.EvCarry, 4), eventAt(impl.EvCarry, 3), eventAt(impl.EvFall, 3), eventAt(impl.EvFall, 0)})
	if !slices.Equal(codes, []int{0, 0, 1, 0, 0, 1, 0, 1}) {
		t.Errorf("codes are %v", codes)
	}
}

func TestRunClusterRefuses(t *testing.T) {
	for _, chain := range []bool{false, true} {
		for _, size := range []int{1, 2, 119, 120, 121, 122, 240, 1000} {
			events := slices.Repeat([]impl.Event{eventAt(impl.EvWait, 1)}, size)
			if size > impl.MaxEvents {
				notRun(t, 4, chain, 8, events)
				continue
			}
			c, codes := holdRun(t, 4, chain, 8, events)
			if c.Peers[1].View != 1+size || len(codes) != size {
				t.Errorf("%d events: %+v, %v", size, c, codes)
			}
			// One that is not right, wherever it stands.
			for _, k := range []int{0, size / 2, size - 1} {
				for _, wrong := range []impl.Event{{}, {Kind: 12}, {Kind: -1}, {Kind: math.MaxInt}, eventAt(impl.EvWait, -1), {Kind: impl.EvWait, To: -1}, {Kind: impl.EvWait, Num: -1}, {Kind: impl.EvWait, Cmd: set("a", 1)}, {Kind: impl.EvOffer}, lyingBlock(3, 0, 0, impl.Cmd{}), {Kind: impl.EvOffer, Cmd: set("", 1)}} {
					other := slices.Clone(events)
					other[k] = wrong
					notRun(t, 4, chain, 8, other)
				}
			}
			// One that does nothing is right, though.
			events[size-1] = eventAt(impl.EvShow, math.MaxInt)
			if _, codes := holdRun(t, 4, chain, 8, events); codes[size-1] != 0 {
				t.Errorf("codes are %v", codes)
			}
			// Who is not made does not live.
			for _, n := range somePeers() {
				for _, liars := range []int{0, -1, 1, 3, 8, 16, 127, 128, math.MinInt, math.MaxInt} {
					if _, ok := plainClusterNew(n, chain, liars); !ok {
						notRun(t, n, chain, liars, events)
					}
				}
			}
		}
	}
}

// eventLife is drawn event by event, most of them such as may be done.
type eventLife struct {
	c    impl.Cluster
	draw func(int) int
}

// liar is mostly one that lies.
func (h *eventLife) liar() int {
	var liars []int
	for i := range h.c.N {
		if plainLies(h.c, i) {
			liars = append(liars, i)
		}
	}
	if len(liars) == 0 || h.draw(8) == 0 {
		return h.draw(h.c.N + 2)
	}
	return liars[h.draw(len(liars))]
}

// number is one of which there are votes enough, if it finds one.
func (h *eventLife) number(kind int) int {
	num := h.draw(6 * len(h.c.Tree))
	if kind == impl.EvLieView {
		// About where they are.
		return max(0, plainFarthest(h.c.Peers)-3+h.draw(6)) + impl.MaxView*h.draw(2)
	}
	for range 12 {
		k, phase := num%len(h.c.Tree), plainLifePhase(h.c, num)
		if kind == impl.EvLieBlock {
			phase = plainLifePhase(h.c, 0)
		}
		if _, enough := plainLieQc(h.c, phase, k); enough || kind == impl.EvLieVote && k > 0 {
			return num
		}
		num = h.draw(6 * len(h.c.Tree))
	}
	return []int{num, 6*len(h.c.Tree) + num, math.MaxInt - num}[h.draw(3)]
}

func (h *eventLife) lie() impl.Event {
	kind := impl.EvLieVote + h.draw(4)
	e := lying(kind, h.liar(), h.draw(h.c.N), h.number(kind))
	if kind == impl.EvLieBlock {
		e.Cmd = set("x", h.draw(3))
	}
	if h.draw(15) == 0 {
		e.To = h.c.N + h.draw(2)
	}
	return e
}

func (h *eventLife) next() impl.Event {
	n, size := h.c.N, len(h.c.Net)
	for i := range n {
		if !plainLies(h.c, i) && plainReady(h.c.Peers[i], n, h.c.Chain) && h.draw(3) > 0 {
			return eventAt(impl.EvShow, i)
		}
	}
	switch from := h.draw(50); {
	case from < 4:
		return impl.Event{Kind: impl.EvOffer, Cmd: impl.Cmd{Kind: 1 + h.draw(3), Key: string([]byte{byte('a' + h.draw(3))}), Num: h.draw(50)}}
	case from < 5:
		return eventAt(impl.EvShow, h.draw(n+1))
	case from < 7:
		return eventAt(impl.EvFall, h.draw(n+1))
	case from < 9 || size == 0:
		return eventAt(impl.EvWait, h.draw(n+1))
	case from < 15:
		return h.lie()
	case from < 17:
		return eventAt(impl.EvLose, h.draw(size+1))
	case from < 20:
		return eventAt(impl.EvTwice, h.draw(size+1))
	case from < 24:
		return eventAt(impl.EvCarry, h.draw(size+2))
	default:
		// Most come about in their order.
		return eventAt(impl.EvCarry, h.draw(min(size, 3)))
	}
}

// drawnLife is one that was gone through, and its events: how many there are, and who of them lies, hangs on the seed.
func drawnLife(t *testing.T, chain bool, seed uint32, size int) (*eventLife, []impl.Event) {
	t.Helper()
	n := []int{4, 7, 4, 5, 1, 4, 6, 2, 7, 3}[seed%10]
	liars := 0
	if n >= 4 && seed%4 > 0 {
		for i := range (n - 1) / 3 {
			liars |= 1 << ((int(seed) + 3*i) % n)
		}
	}
	h := &eventLife{newCluster(t, n, chain, liars), drawn(seed*991 + 17)}
	var events []impl.Event
	for range size {
		e := h.next()
		events = append(events, e)
		h.c, _ = impl.StepCluster(h.c, e)
	}
	return h, events
}

// holdLifePromise is promise 19: each event does what its chapter's function does, all of them what one behind the other does.
func holdLifePromise(t *testing.T, n int, chain bool, liars int, events []impl.Event) []int {
	t.Helper()
	c := newCluster(t, n, chain, liars)
	var codes []int
	for _, e := range events {
		next, ok := holdDeed(t, c, stepping(e))
		if told, wantOk := byItsChapter(c, e); ok != wantOk || !sameCluster(next, told) {
			t.Fatalf("%+v of\n%+v\nis\n%+v, %v, by its chapter\n%+v, %v", e, c, next, ok, told, wantOk)
		}
		if !ok && !sameCluster(next, c) {
			t.Fatalf("%+v is false, and leaves\n%+v, was\n%+v", e, next, c)
		}
		c, codes = next, append(codes, map[bool]int{true: 1, false: 0}[ok])
	}
	got, all, ok := impl.RunCluster(n, chain, liars, events)
	if !ok || !slices.Equal(all, codes) || !sameCluster(got, c) {
		t.Fatalf("RunCluster(%d, %v, %d) of %+v is\n%+v, %v, %v, one behind the other\n%+v, %v", n, chain, liars, events, got, all, ok, c, codes)
	}
	return codes
}

func TestALifeDoesWhatTheDocumentTells(t *testing.T) {
	for _, chain := range []bool{false, true} {
		done, refused, rows := map[string]int{}, map[string]int{}, 0
		for seed := range uint32(500) {
			size := impl.MaxEvents - int(seed)%3*20
			h, events := drawnLife(t, chain, seed, size)
			codes := holdLifePromise(t, h.c.N, chain, h.c.Liars, events)
			for i, e := range events {
				if codes[i] == 1 {
					done[eventNames[e.Kind]]++
				} else {
					refused[eventNames[e.Kind]]++
				}
			}
			for _, i := range plainHonest(h.c) {
				rows += len(h.c.Peers[i].Row)
			}
		}
		for _, what := range eventNames[1:] {
			if done[what] < 150 || refused[what] < 50 && what != "offer" {
				t.Errorf("with chain %v: %s is done %d times, refused %d times", chain, what, done[what], refused[what])
			}
		}
		if rows < 350 {
			t.Errorf("with chain %v: %d blocks go through", chain, rows)
		}
	}
}

// A beginning of a life, and then the rest of it by steps, comes to the same.
func TestALifeInTwoParts(t *testing.T) {
	for _, chain := range []bool{false, true} {
		for seed := range uint32(20) {
			h, events := drawnLife(t, chain, seed, impl.MaxEvents)
			for _, cut := range []int{0, 1, 60, 119, 120} {
				c, codes, ok := impl.RunCluster(h.c.N, chain, h.c.Liars, events[:cut])
				for _, e := range events[cut:] {
					c, _ = impl.StepCluster(c, e)
				}
				if !ok || len(codes) != cut || !sameCluster(c, h.c) {
					t.Fatalf("cut at %d: %+v, %v, want %+v", cut, c, codes, h.c)
				}
			}
		}
	}
}

// eventsFor are some of each Kind, with numbers of every kind.
func eventsFor(c impl.Cluster, from int) []impl.Event {
	var out []impl.Event
	numbers := append(fieldNumbers(), len(c.Net)-1, len(c.Net), len(c.Tree)-1, len(c.Tree), len(c.Tree)+1)
	for i, num := range numbers {
		for kind := impl.EvOffer; kind <= impl.EvLieView; kind++ {
			other := numbers[(i*7+kind+from)%len(numbers)]
			e := impl.Event{Kind: kind, At: num, To: max(other, 0), Num: (i + kind*from) % 40, Cmd: rightCmdOf(kind)}
			if kind >= impl.EvLieVote {
				e.At, e.To, e.Num = (i+from)%8, (i+kind)%5, max(num, 0)
			}
			out = append(out, e)
		}
	}
	liar := max(slices.Index(liesOf(c.Liars, min(c.N, 7)), true), 0)
	for num := range 30 {
		out = append(out, lying(impl.EvLieQc, (num+from)%5, num%4, num), lyingBlock((num+from/2)%5, num%4, num, set("a", num)), lying(impl.EvLieVote, 3, from%5, num*from%71))
		out = append(out, lying(impl.EvLieQc, liar, num%4, num), lyingBlock(liar, num%4, num, set("a", num)))
	}
	wrong := wrongCmds()
	for i, kind := range fieldNumbers() {
		out = append(out, impl.Event{Kind: kind, At: i % 3, Cmd: rightCmdOf(kind)}, impl.Event{Kind: 1 + i%11, Cmd: wrong[(i*3+from)%len(wrong)]}, impl.Event{Kind: 1 + i%11, At: 3, To: kind, Cmd: rightCmdOf(1 + i%11)})
	}
	return out
}

// lifeClusters have parts that fit one another, and such as do not.
func lifeClusters(t *testing.T) []impl.Cluster {
	out := append(wrongClusters(), handHall(), allGave(t, letterTree(7), 7, 3), allGave(t, hollowTree(), 4, 2), allGave(t, overTree(4), 4, 8), allGave(t, askTree(4), 4, 8), allGave(t, chainTree(4), 4, 8))
	for _, chain := range []bool{false, true} {
		for i, c := range wellUsed(t, chain, 4, 80) {
			out = append(out, c)
			c.Chain, c.Liars, c.N = !chain, i%9, 3+i%6
			c.Net = append(slices.Clone(c.Net), someNews(max(0, 58-len(c.Net)+i%4))...)
			out = append(out, c)
		}
	}
	return out
}

// Each function answers as the chapter says, of everything, in both ways.
func TestLivesByTheWords(t *testing.T) {
	done, refused := map[string]int{}, map[string]int{}
	wrong := len(wrongClusters())
	for i, c := range lifeClusters(t) {
		// Some of each kind are enough.
		if i%3 > 0 && i < wrong {
			continue
		}
		for j, e := range eventsFor(c, i) {
			if impl.EventOk(e) != plainEventOk(e) {
				t.Fatalf("EventOk of %+v is %v", e, impl.EventOk(e))
			}
			if j%2 != i%2 {
				continue
			}
			d := stepping(e)
			if _, ok := holdDeed(t, c, d); ok {
				done[strings.Fields(d.what)[0]]++
			} else {
				refused[strings.Fields(d.what)[0]]++
			}
		}
	}
	for i, what := range eventNames {
		if done[what] < 100 && i > 0 || refused[what] < 100 && i != impl.EvOffer {
			t.Errorf("%s is done %d times, refused %d times", what, done[what], refused[what])
		}
	}
}

func roomyEvents(events []impl.Event) []impl.Event {
	var out []impl.Event
	for _, e := range events {
		e.Cmd.Key = strings.Clone(e.Cmd.Key)
		out = append(out, e)
	}
	return append(out, eventAt(impl.EvWait, 77), eventAt(impl.EvWait, 78))[:len(events)]
}

func spansOfEvents(events []impl.Event) []span {
	out := []span{spanOf("events", events)}
	for _, e := range events {
		if e.Cmd.Key != "" {
			out = append(out, textSpan("a key of an event", e.Cmd.Key))
		}
	}
	return out
}

// memoryEvents are such as are done, and such as are refused, whatever the cluster is.
func memoryEvents(c impl.Cluster) []impl.Event {
	var out []impl.Event
	for i, e := range eventsFor(c, len(c.Net)) {
		if _, ok := plainStep(c, e); ok && i%3 == 0 || i%29 == 0 {
			out = append(out, e)
		}
	}
	return append(out, impl.Event{}, impl.Event{Kind: impl.EvOffer, Cmd: set("abc", 1)}, impl.Event{Kind: impl.EvOffer, Cmd: set("ABC", 1)}, lyingBlock(3, 0, 0, set("abc", 1)), lyingBlock(3, 4, 0, set("abc", 1)), lyingBlock(3, 0, 0, set("ABC", 1)), eventAt(impl.EvCarry, 0), eventAt(impl.EvShow, 0))
}

// No argument is changed, nor the spare room behind it, nor is that room looked at; the answer's memory is its own, list by list.
func TestLivesOwnMemory(t *testing.T) {
	done := map[string]int{}
	clusters := append([]impl.Cluster{handHall(), allGave(t, letterTree(4), 4, 8), allGave(t, chainTree(7), 7, 96), newCluster(t, 7, true, 96)}, memoryClusters(t)...)
	for i, c := range clusters {
		// Some of each kind are enough.
		if i > 3 && i%20 > 0 {
			continue
		}
		asked := roomyCluster(c)
		was, spans := wholeCluster(asked), spansOf(asked)
		events := roomyEvents(memoryEvents(c))
		spans = append(spans, spansOfEvents(events)...)
		for _, e := range events {
			d := stepping(e)
			got, ok := d.done(asked)
			if want, wantOk := d.told(c); ok != wantOk || !sameCluster(got, want) {
				t.Fatalf("%s of\n%+v\nis\n%+v, %v, want\n%+v, %v", d.what, c, got, ok, want, wantOk)
			}
			if both := sharing(spansOf(got), spans); both != "" {
				t.Fatalf("%s (%v): %s share memory", d.what, ok, both)
			}
			soilCluster(got)
			if !sameCluster(wholeCluster(asked), was) {
				t.Fatalf("%s changes what was handed in:\n%+v, was\n%+v", d.what, wholeCluster(asked), was)
			}
			if ok {
				done[strings.Fields(d.what)[0]]++
			}
		}
	}
	for _, what := range eventNames[1:] {
		if done[what] < 10 {
			t.Errorf("%s is done %d times", what, done[what])
		}
	}
}

// Events are not changed, nor looked at behind their end, nor kept: their keys are copied.
func TestRunClusterOwnMemory(t *testing.T) {
	for _, chain := range []bool{false, true} {
		for seed := range uint32(30) {
			h, events := drawnLife(t, chain, seed, 20+int(seed)*3)
			if seed%5 == 0 {
				// These are refused.
				events[len(events)/2].Kind = 12
			}
			asked := roomyEvents(events)
			was := slices.Clone(asked[:cap(asked)])
			got, codes, ok := impl.RunCluster(h.c.N, chain, h.c.Liars, asked)
			if ok && !sameCluster(got, h.c) || ok != (seed%5 > 0) {
				t.Fatalf("RunCluster of %+v is %+v, %v", events, got, ok)
			}
			answer := append(spansOf(got), spanOf("codes", codes))
			if len(codes) == 0 {
				answer = spansOf(got)
			}
			if both := sharing(answer, spansOfEvents(asked)); both != "" {
				t.Fatalf("RunCluster: %s share memory", both)
			}
			soilCluster(got)
			for i := range codes[:cap(codes)] {
				codes[:cap(codes)][i] = -9
			}
			if !slices.Equal(asked[:cap(asked)], was) {
				t.Fatalf("RunCluster changes what was handed in: %+v", asked)
			}
			clear(asked)
			if again, _, _ := impl.RunCluster(h.c.N, chain, h.c.Liars, events); seed%5 > 0 && !sameCluster(again, h.c) {
				t.Fatalf("RunCluster keeps what was handed in: %+v", again)
			}
		}
	}
}

// Lists that are one and the same in an argument are not so in the answer.
func TestLivesOwnLists(t *testing.T) {
	cmds, letters, votes, row := []impl.Cmd{set("a", 1), add("b", 2)}, someNews(5), votesOf(impl.PhOne, 1, 1, 7), []int{1, 2, 3}
	cells, undos := []impl.Cell{{Key: "a", Num: 1}}, []impl.Undo{had("a", 1), gone("b")}
	p := impl.Peer{View: 1, Row: row[:2], Early: row, Cells: cells, Undos: undos, Votes: votes, News: letters}
	c := impl.Cluster{N: 4, Liars: 8, Tree: []impl.Block{first(), {View: 1, Cmds: cmds}, {View: 2, Cmds: cmds[:1]}}, Peers: []impl.Peer{p, p, p, p}, Net: letters, Said: votes, Pending: cmds}
	for id := range c.Peers {
		c.Peers[id].Id = id
	}
	for _, chain := range []bool{false, true} {
		c.Chain = chain
		for _, e := range memoryEvents(c) {
			got, _ := holdDeed(t, c, stepping(e))
			if both := sharing(spansOf(got), spansOf(c)); both != "" {
				t.Fatalf("%+v: %s share memory", e, both)
			}
		}
	}
}

// Nothing is kept from one call to another.
func TestLivesAnswerTheSameEachTime(t *testing.T) {
	for _, c := range append(wellUsed(t, false, 1, 50), handHall()) {
		for _, e := range memoryEvents(c) {
			want, wantOk := impl.StepCluster(c, e)
			for range 2 {
				if got, ok := impl.StepCluster(c, e); ok != wantOk || !sameCluster(got, want) {
					t.Fatalf("%+v is\n%+v, %v, was\n%+v, %v", e, got, ok, want, wantOk)
				}
			}
		}
	}
}

// Several may ask at the same time, of one cluster and of the same events.
func TestLivesAtTheSameTime(t *testing.T) {
	c := handHall()
	h, life := drawnLife(t, true, 5, impl.MaxEvents)
	events := memoryEvents(c)
	wrong := make(chan string, len(events))
	for _, e := range events {
		go func() {
			d := stepping(e)
			want, wantOk := d.told(c)
			got, ok := d.done(c)
			all, _, run := impl.RunCluster(h.c.N, true, h.c.Liars, life)
			if ok != wantOk || !sameCluster(got, want) || !run || !sameCluster(all, h.c) {
				wrong <- d.what
				return
			}
			wrong <- ""
		}()
	}
	for range events {
		if what := <-wrong; what != "" {
			t.Errorf("%s is another one", what)
		}
	}
}

// The chapter 'Ways': what an event does is a function in a field of a struct: it is called there by each function that does events, and all Kinds have one.
func TestWhatAnEventDoesIsAFunctionInAField(t *testing.T) {
	file, err := parser.ParseFile(token.NewFileSet(), "../impl/l19_life.go", nil, 0)
	if err != nil {
		t.Fatal(err)
	}
	field := functionField(file)
	if field == "" {
		t.Fatal("no struct has a function in a field")
	}
	filled := 0
	ast.Inspect(file, func(n ast.Node) bool {
		pair, ok := n.(*ast.KeyValueExpr)
		if ok {
			name, ok := pair.Key.(*ast.Ident)
			if ok && name.Name == field {
				filled++
			}
		}
		return true
	})
	if filled != impl.EvLieView {
		t.Errorf("%d Kinds have a function", filled)
	}
	functions, calls := map[string]*ast.FuncDecl{}, map[string]bool{}
	for _, d := range file.Decls {
		if f, ok := d.(*ast.FuncDecl); ok {
			functions[f.Name.Name] = f
			calls[f.Name.Name] = callsField(f, field)
		}
	}
	for _, from := range []string{"StepCluster", "RunCluster"} {
		reached, found := []string{from}, false
		for i := 0; i < len(reached); i++ {
			found = found || calls[reached[i]]
			ast.Inspect(functions[reached[i]], func(n ast.Node) bool {
				if name, ok := n.(*ast.Ident); ok && functions[name.Name] != nil && !slices.Contains(reached, name.Name) {
					reached = append(reached, name.Name)
				}
				return true
			})
		}
		if !found {
			t.Errorf("%s calls no function in a field", from)
		}
	}
}

// functionField is the name of a struct's field in which a function stands.
func functionField(file *ast.File) string {
	found := ""
	ast.Inspect(file, func(n ast.Node) bool {
		fields, ok := n.(*ast.StructType)
		if !ok {
			return true
		}
		for _, f := range fields.Fields.List {
			if _, ok := f.Type.(*ast.FuncType); ok {
				found = f.Names[0].Name
			}
		}
		return true
	})
	return found
}

func callsField(f *ast.FuncDecl, field string) bool {
	found := false
	ast.Inspect(f, func(n ast.Node) bool {
		call, ok := n.(*ast.CallExpr)
		if ok {
			on, ok := call.Fun.(*ast.SelectorExpr)
			found = found || ok && on.Sel.Name == field
		}
		return true
	})
	return found
}
