package tests

import (
	"go/ast"
	"go/parser"
	"go/token"
	"math"
	"slices"
	"strconv"
	"strings"
	"testing"

	"loop.example/g00330/impl"
)

// The plain ones are the chapter's own words, sentence by sentence.
func plainMayHand(c impl.Cluster, l impl.Letter) bool {
	if !plainLetterOk(c.Tree, c.N, l) || !plainLies(c, l.From) || !plainProven(c.Said, l.Qc, c.Liars) {
		return false
	}
	// Only a letter of this Kind has a vote.
	return l.Kind != 2 || plainLies(c, l.Vote.By)
}

func plainHandLetter(c impl.Cluster, l impl.Letter) (impl.Cluster, bool) {
	if !plainMayHand(c, l) {
		return c, false
	}
	return plainPost(c, []impl.Letter{l})
}

func plainHandBlock(c impl.Cluster, b impl.Block) (impl.Cluster, int) {
	if !plainQcRight(c.Tree, c.N, b.Just) || !plainProven(c.Said, b.Just, c.Liars) {
		return c, -1
	}
	tree, k := plainPut(c.Tree, b)
	c.Tree = tree
	return c, k
}

func plainView(tree []impl.Block, k int) int {
	if k < 0 || k >= len(tree) {
		return 0
	}
	return tree[k].View
}

func plainLieVote(c impl.Cluster, i int, to int, phase int, k int) impl.Letter {
	view := plainView(c.Tree, k)
	return impl.Letter{Kind: 2, From: i, To: to, View: view, Vote: impl.Vote{Phase: phase, View: view, Block: k, By: i}}
}

func plainLieQc(c impl.Cluster, phase int, k int) (impl.Qc, bool) {
	if k < 0 || k >= len(c.Tree) {
		return impl.Qc{}, false
	}
	votes := slices.Clone(c.Said)
	// Signers have no bits behind these.
	for i := range 7 {
		if plainLies(c, i) {
			votes = append(votes, plainLieVote(c, i, 0, phase, k).Vote)
		}
	}
	return plainQcOf(votes, phase, c.Tree[k].View, k, c.N)
}

func handing(l impl.Letter) deed {
	return deed{"HandLetter " + brief(l),
		func(c impl.Cluster) (impl.Cluster, bool) { return impl.HandLetter(c, l) },
		func(c impl.Cluster) (impl.Cluster, bool) { return plainHandLetter(c, l) }}
}

// handingBlock is false where the number is none; holdHandBlock asks for the number itself.
func handingBlock(b impl.Block) deed {
	return deed{"HandBlock " + brief(b),
		func(c impl.Cluster) (impl.Cluster, bool) {
			next, k := impl.HandBlock(c, b)
			return next, k != -1
		},
		func(c impl.Cluster) (impl.Cluster, bool) {
			next, k := plainHandBlock(c, b)
			return next, k != -1
		}}
}

func holdMayHand(t *testing.T, c impl.Cluster, l impl.Letter, want bool) {
	t.Helper()
	if impl.MayHand(c, l) != want {
		t.Fatalf("MayHand of\n%+v\n%+v is %v", c, l, !want)
	}
	if next, ok := impl.HandLetter(c, l); ok && !want || !ok && !sameCluster(next, c) {
		t.Fatalf("HandLetter of\n%+v\n%+v is\n%+v, %v", c, l, next, ok)
	}
}

// holdHandBlock answers what was put, so that one can go on with it.
func holdHandBlock(t *testing.T, c impl.Cluster, b impl.Block, k int) impl.Cluster {
	t.Helper()
	got, at := impl.HandBlock(c, b)
	if want, told := plainHandBlock(c, b); told != k || at != k || !sameCluster(got, want) {
		t.Fatalf("HandBlock of\n%+v\n%+v is\n%+v, %d, want %d, by the words\n%+v, %d", c, b, got, at, k, want, told)
	}
	return got
}

// notPutByHand holds a block that is refused: -1, and all is as it was.
func notPutByHand(t *testing.T, c impl.Cluster, blocks ...impl.Block) {
	t.Helper()
	for _, b := range blocks {
		if got := holdHandBlock(t, c, b, -1); !sameCluster(got, c) {
			t.Fatalf("HandBlock of\n%+v\n%+v is\n%+v, is not as it was", c, b, got)
		}
	}
}

func holdLieVote(t *testing.T, c impl.Cluster, i int, to int, phase int, k int, want impl.Letter) {
	t.Helper()
	if got := impl.LieVote(c, i, to, phase, k); got != want {
		t.Fatalf("LieVote of\n%+v\n%d to %d, of %d for %d, is\n%+v, want\n%+v", c, i, to, phase, k, got, want)
	}
}

func holdLieQc(t *testing.T, c impl.Cluster, phase int, k int, want impl.Qc, enough bool) {
	t.Helper()
	if got, ok := impl.LieQc(c, phase, k); ok != enough || got != want {
		t.Fatalf("LieQc of\n%+v\n%d for %d, is %+v, %v, want %+v, %v", c, phase, k, got, ok, want, enough)
	}
}

func noLieQc(t *testing.T, c impl.Cluster, phase int, k int) {
	t.Helper()
	holdLieQc(t, c, phase, k, impl.Qc{}, false)
}

// signedBy is a Qc of a block of the tree that these signed, whether they did so or not.
func signedBy(tree []impl.Block, phase int, k int, signers int) impl.Qc {
	return impl.Qc{Phase: phase, View: tree[k].View, Block: k, Signers: signers}
}

// handHall is a cluster of four of whom 3 lies: 0 and 1 gave a vote of PhOne for block 1, 0, 1 and 2 of PhTwo, and 2 of PhOne for block 2, which clashes with it.
// 0 - 1 - 3, 0 - 2
func handHall() impl.Cluster {
	c, _ := plainClusterNew(4, false, 8)
	c.Tree = []impl.Block{first(), {View: 1, Cmds: []impl.Cmd{set("a", 5)}}, {View: 1}}
	c.Tree = append(c.Tree, impl.Block{Parent: 1, View: 2, Just: signedBy(c.Tree, impl.PhOne, 1, 11)})
	c.Said = slices.Concat(votesOf(impl.PhOne, 1, 1, 3), votesOf(impl.PhTwo, 1, 1, 7), votesOf(impl.PhOne, 1, 2, 4))
	return c
}

// allGave is a cluster in which each one but those who lie gave every vote that there is.
func allGave(t *testing.T, tree []impl.Block, n int, liars int) impl.Cluster {
	c := newCluster(t, n, n%2 == 0, liars)
	c.Tree = tree
	for k := 1; k < len(tree); k++ {
		for phase := impl.PhOne; phase <= impl.PhChain; phase++ {
			c.Said = append(c.Said, votesOf(phase, tree[k].View, k, (1<<n-1)&^liars)...)
		}
	}
	return c
}

// someLiars are all sets of those who may lie among n.
func someLiars(n int) []int {
	var out []int
	for liars := range 1 << n {
		if _, ok := plainClusterNew(n, false, liars); ok {
			out = append(out, liars)
		}
	}
	return out
}

func TestMayHand(t *testing.T) {
	c := handHall()
	enough := signedBy(c.Tree, impl.PhOne, 1, 11)
	all := signedBy(c.Tree, impl.PhTwo, 1, 15)
	vote := impl.Vote{Phase: impl.PhThree, View: 1, Block: 2, By: 3}
	right := []impl.Letter{
		// Blocks, one on the first block and one whose Just those who lie and some votes make.
		{Kind: impl.LtBlock, From: 3, To: 0, View: 1, Block: 1},
		{Kind: impl.LtBlock, From: 3, To: 3, View: 1, Block: 2},
		{Kind: impl.LtBlock, From: 3, To: 2, View: 2, Block: 3, Qc: enough},
		{Kind: impl.LtVote, From: 3, To: 1, View: 1, Vote: vote},
		{Kind: impl.LtQc, From: 3, To: 1, View: 1, Qc: enough},
		{Kind: impl.LtQc, From: 3, To: 0, View: 1, Qc: all},
		// Nobody who lies has to be a signer.
		{Kind: impl.LtQc, From: 3, To: 0, View: 1, Qc: signedBy(c.Tree, impl.PhTwo, 1, 7)},
		{Kind: impl.LtView, From: 3, To: 0, View: 1},
		{Kind: impl.LtView, From: 3, To: 1, View: impl.MaxView},
		{Kind: impl.LtView, From: 3, To: 2, View: 2, Qc: enough},
		{Kind: impl.LtView, From: 3, To: 2, View: impl.MaxView, Qc: all},
	}
	for _, l := range right {
		holdMayHand(t, c, l, true)
		// From one that does not lie, or from nobody, by whomever its vote is.
		for _, from := range append(someBys(), 4) {
			if from == 3 {
				continue
			}
			other := l
			other.From = from
			holdMayHand(t, c, other, false)
			if l.Kind == impl.LtVote {
				other.Vote.By = from
				holdMayHand(t, c, other, false)
				other.From = 3
				holdMayHand(t, c, other, false)
			}
		}
		// Without liars nobody may, with others who lie neither.
		for liars := range 8 {
			d := c
			d.Liars = liars
			holdMayHand(t, d, l, false)
		}
		// Neither Peers nor Net nor Pending are asked, nor which way it is.
		d := c
		d.Chain, d.Peers, d.Net, d.Pending = true, nil, someNews(70), make([]impl.Cmd, 9)
		if !impl.MayHand(d, l) {
			t.Fatalf("MayHand of\n%+v\n%+v is false", d, l)
		}
	}
}

// Each letter that is not LetterOk, in all ways that chapter 8 names, may not be put in, also when all votes were given.
func TestMayHandOfWrongLetters(t *testing.T) {
	for _, n := range []int{4, 7} {
		for _, tree := range [][]impl.Block{letterTree(n), askTree(n)[:5], hollowTree()} {
			for _, liars := range []int{1, 2, plainFaultBits(n)} {
				c := allGave(t, tree, n, liars)
				may := 0
				for _, good := range rightLetters(tree, n) {
					for _, l := range turnedLetters(good) {
						want := plainMayHand(c, l)
						if want {
							may++
						}
						if impl.MayHand(c, l) != want {
							t.Fatalf("MayHand of\n%+v\n%+v is %v", c, l, !want)
						}
						if want != (plainLetterOk(tree, n, l) && plainLies(c, l.From)) {
							t.Fatalf("all votes were given, and %+v is %v", l, want)
						}
					}
				}
				if may < 50 {
					t.Errorf("among %d only %d may be put in", n, may)
				}
			}
		}
	}
	c := handHall()
	enough := signedBy(c.Tree, impl.PhOne, 1, 11)
	// By hand: one that is LetterOk, and each thing of it that chapter 8 names turned.
	block := impl.Letter{Kind: impl.LtBlock, From: 3, To: 1, View: 2, Block: 3, Qc: enough}
	vote := impl.LieVote(c, 3, 1, impl.PhOne, 1)
	qc := impl.Letter{Kind: impl.LtQc, From: 3, To: 1, View: 1, Qc: enough}
	news := newsTo(3, 1, 2, enough)
	for _, good := range []impl.Letter{block, vote, qc, news} {
		holdMayHand(t, c, good, true)
		for _, turn := range []func(*impl.Letter){
			func(l *impl.Letter) { l.Kind = 0 }, func(l *impl.Letter) { l.Kind = 5 }, func(l *impl.Letter) { l.Kind = -l.Kind },
			func(l *impl.Letter) { l.Kind = l.Kind%4 + 1 },
			func(l *impl.Letter) { l.From = -1 }, func(l *impl.Letter) { l.From = 4 }, func(l *impl.Letter) { l.To = -1 }, func(l *impl.Letter) { l.To = 4 },
			func(l *impl.Letter) { l.View = 0 }, func(l *impl.Letter) { l.View = -1 }, func(l *impl.Letter) { l.View = impl.MaxView + 1 },
			func(l *impl.Letter) { l.Block++ }, func(l *impl.Letter) { l.Block = -1 }, func(l *impl.Letter) { l.Block = 4 },
			func(l *impl.Letter) { l.Qc.Phase = 5 }, func(l *impl.Letter) { l.Qc.View++ }, func(l *impl.Letter) { l.Qc.Block = 4 }, func(l *impl.Letter) { l.Qc.Signers = 9 },
			func(l *impl.Letter) { l.Qc.Signers = 16 + 11 }, func(l *impl.Letter) { l.Qc.Signers = -5 },
			func(l *impl.Letter) { l.Vote.By = (l.Vote.By + 1) % 4 }, func(l *impl.Letter) { l.Vote.Phase = -1 }, func(l *impl.Letter) { l.Vote.View++ }, func(l *impl.Letter) { l.Vote.Block = 4 },
		} {
			l := good
			turn(&l)
			holdMayHand(t, c, l, false)
		}
	}
	for _, turned := range []impl.Letter{
		{Kind: impl.LtBlock, From: 3, View: 2, Block: 3}, {Kind: impl.LtBlock, From: 3, View: 1, Block: 3, Qc: enough}, {Kind: impl.LtBlock, From: 3, View: 1, Block: 0},
		{Kind: impl.LtQc, From: 3, View: 1}, {Kind: impl.LtQc, From: 3, View: 2, Qc: enough}, newsTo(3, 0, 1, enough),
		{Kind: impl.LtVote, From: 3, View: 2, Vote: vote.Vote}, {Kind: impl.LtVote, From: 3, View: 1}, {},
	} {
		holdMayHand(t, c, turned, false)
	}
}

// A Qc needs, of each signer, that it lies, or that this very vote of it is in Said: of this Phase, View and Block.
func TestMayHandAsksForTheVotes(t *testing.T) {
	for _, n := range []int{1, 2, 3, 4, 5, 6, 7} {
		tree := askTree(n)[:7]
		for _, liars := range someLiars(n) {
			if liars == 0 {
				continue
			}
			liar := slices.Index(liesOf(liars, n), true)
			for signers := range 1 << n {
				if plainCount(signers) < plainQuorum(n) {
					continue
				}
				c := newCluster(t, n, false, liars)
				c.Tree = append(tree[:7:7], impl.Block{Parent: 2, View: 9, Just: signedBy(tree, impl.PhTwo, 2, signers)})
				letters := []impl.Letter{
					shownTo(c.Tree, n, 7, 0),
					{Kind: impl.LtQc, View: 2, Qc: signedBy(tree, impl.PhTwo, 2, signers)},
					newsTo(0, 0, 3, signedBy(tree, impl.PhTwo, 2, signers)),
				}
				gave := votesOf(impl.PhTwo, 2, 2, signers&^liars)
				for _, l := range letters {
					l.From = liar
					c.Said = gave
					holdMayHand(t, c, l, true)
					// One vote is not there, or it is another one.
					for at := range gave {
						c.Said = slices.Delete(slices.Clone(gave), at, at+1)
						holdMayHand(t, c, l, false)
						for _, turn := range []func(*impl.Vote){
							func(v *impl.Vote) { v.Phase = impl.PhOne }, func(v *impl.Vote) { v.Phase = impl.PhThree }, func(v *impl.Vote) { v.View++ }, func(v *impl.Vote) { v.View-- },
							func(v *impl.Vote) { v.Block++ }, func(v *impl.Vote) { v.Block = 1 }, func(v *impl.Vote) { v.By = n }, func(v *impl.Vote) { v.By = liar },
						} {
							c.Said = slices.Clone(gave)
							turn(&c.Said[at])
							holdMayHand(t, c, l, false)
						}
					}
				}
			}
		}
	}
}

// liesOf tells of each one of n whether it lies.
func liesOf(liars int, n int) []bool {
	var out []bool
	for i := range n {
		out = append(out, plainLies(impl.Cluster{N: n, Liars: liars}, i))
	}
	return out
}

// A Qc whose signers all lie needs no vote at all: where so many lie as are enough.
func TestMayHandOfThoseWhoLieAlone(t *testing.T) {
	c := handHall()
	c.Said = nil
	qc := impl.Letter{Kind: impl.LtQc, From: 3, View: 1, Qc: signedBy(c.Tree, impl.PhOne, 1, 14)}
	for liars := range 16 {
		c.Liars = liars
		holdMayHand(t, c, qc, liars&14 == 14)
	}
	// Bits of nobody, and those of a number below 0, are bits as well.
	for liars, want := range map[int]bool{16: false, 14 + 16: true, -1: true, -2: true, -8: false, math.MinInt: false, math.MaxInt: true, math.MinInt + 14: true} {
		c.Liars = liars
		holdMayHand(t, c, qc, want)
	}
}

func TestHandLetter(t *testing.T) {
	c := handHall()
	enough := signedBy(c.Tree, impl.PhOne, 1, 11)
	for _, l := range []impl.Letter{shownTo(c.Tree, 4, 1, 2), shownTo(c.Tree, 4, 3, 0), votedTo(c.Tree, impl.PhOne, 2, 3, 1), {Kind: impl.LtQc, View: 1, To: 3, Qc: enough}, newsTo(0, 1, 5, impl.Qc{}), newsTo(0, 1, 5, enough)} {
		l.From = 3
		for _, size := range []int{0, 1, 2, 30, impl.MaxNet - 2, impl.MaxNet - 1, impl.MaxNet, impl.MaxNet + 1, 2 * impl.MaxNet} {
			d := withNet(c, someNews(size)...)
			if size >= impl.MaxNet {
				holdRefused(t, d, handing(l))
				continue
			}
			// It stands behind the others, once.
			holdMade(t, d, handing(l), withNet(c, append(someNews(size), l)...))
			honest := l
			honest.From = 2
			holdRefused(t, d, handing(honest), handing(impl.Letter{}))
		}
		// It may be put in as often as there is room, and is carried like any other one.
		d := after(t, c, handing(l), handing(l), handing(l))
		for range 3 {
			d = after(t, d, carrying(0))
		}
	}
	// Its own letter, which is in the Net already, may be put in again; one of an honest one not.
	d := after(t, c, offering(set("a", 1)), handing(newsTo(3, 0, 4, impl.Qc{})), waiting(0))
	after(t, d, handing(d.Net[0]))
	holdRefused(t, d, handing(d.Net[1]))
}

func TestHandBlock(t *testing.T) {
	c := handHall()
	enough := signedBy(c.Tree, impl.PhOne, 1, 11)
	// A Just of nothing, and one that votes and those who lie make.
	got := holdHandBlock(t, c, impl.Block{View: 9, Cmds: []impl.Cmd{set("b", 1)}}, 4)
	want := c
	want.Tree = append(copyTree(c.Tree), impl.Block{View: 9, Cmds: []impl.Cmd{set("b", 1)}})
	if !sameCluster(got, want) {
		t.Errorf("HandBlock = %+v", got)
	}
	got = holdHandBlock(t, got, impl.Block{Parent: 1, View: impl.MaxView, Just: enough}, 5)
	got = holdHandBlock(t, got, impl.Block{Parent: 1, View: 3, Just: signedBy(c.Tree, impl.PhTwo, 1, 15)}, 6)
	// Those that are there already have their places, however often they come, and whatever else they are.
	for k, b := range got.Tree {
		if again := holdHandBlock(t, got, b, k); !sameCluster(again, got) {
			t.Errorf("block %d again: %+v", k, again)
		}
	}
	// Not QcRight: too few, a Phase, View, Block or signer that is none.
	notPutByHand(t, c,
		impl.Block{Parent: 1, View: 3, Just: signedBy(c.Tree, impl.PhOne, 1, 3)}, impl.Block{Parent: 1, View: 3, Just: signedBy(c.Tree, impl.PhOne, 1, 9)},
		impl.Block{Parent: 1, View: 3, Just: signedBy(c.Tree, 0, 1, 11)}, impl.Block{Parent: 1, View: 3, Just: signedBy(c.Tree, 5, 1, 11)},
		impl.Block{Parent: 1, View: 3, Just: signedBy(c.Tree, impl.PhOne, 1, 16+11)}, impl.Block{Parent: 1, View: 3, Just: signedBy(c.Tree, impl.PhOne, 1, -5)},
		impl.Block{Parent: 1, View: 3, Just: impl.Qc{View: 1, Block: 1}}, impl.Block{View: 3, Just: impl.Qc{Phase: impl.PhOne, Signers: 15}}, impl.Block{View: 3, Just: impl.Qc{Signers: 8}},
		impl.Block{Parent: 9, View: 3, Just: impl.Qc{Phase: impl.PhOne, View: 1, Block: 9, Signers: 11}})
	// Not Proven: 2 gave no such vote for block 1, 0 none for block 2, and none of them another Phase.
	for _, q := range []impl.Qc{signedBy(c.Tree, impl.PhOne, 1, 7), signedBy(c.Tree, impl.PhOne, 1, 15), signedBy(c.Tree, impl.PhOne, 2, 13), signedBy(c.Tree, impl.PhThree, 1, 11), signedBy(c.Tree, impl.PhChain, 1, 15), signedBy(c.Tree, impl.PhTwo, 2, 14)} {
		notPutByHand(t, c, impl.Block{Parent: q.Block, View: 3, Just: q})
		// With all that is said in Said it is put.
		d := c
		d.Said = append(slices.Clone(c.Said), votesOf(q.Phase, q.View, q.Block, 7)...)
		holdHandBlock(t, d, impl.Block{Parent: q.Block, View: 3, Just: q}, 4)
	}
	// PutBlock refuses it: no Parent, a View that is not above, or too great a one, a Just of another block, or of none, wrong Cmds.
	notPutByHand(t, c,
		impl.Block{Parent: -1, View: 1}, impl.Block{Parent: 4, View: 3}, impl.Block{Parent: math.MaxInt, View: 3}, impl.Block{Parent: math.MinInt, View: 3},
		impl.Block{View: 0}, impl.Block{View: -1}, impl.Block{Parent: 1, View: 1, Just: enough}, impl.Block{Parent: 1, View: impl.MaxView + 1, Just: enough},
		impl.Block{Parent: 1, View: 3}, impl.Block{View: 3, Just: enough}, impl.Block{Parent: 2, View: 3, Just: enough}, impl.Block{Parent: 3, View: 3, Just: enough})
	for _, wrong := range wrongCmds() {
		notPutByHand(t, c, impl.Block{View: 3, Cmds: []impl.Cmd{wrong}}, impl.Block{View: 3, Cmds: []impl.Cmd{set("a", 1), wrong}})
	}
	for size := range 9 {
		b := impl.Block{View: 3, Cmds: slices.Repeat([]impl.Cmd{set("a", 1)}, size)}
		if size > impl.MaxCmds {
			notPutByHand(t, c, b)
		} else {
			holdHandBlock(t, c, b, 4)
		}
	}
}

// A block that is there, but whose Just is not right, or not Proven, has no number by hand.
func TestHandBlockOfOneThatIsThere(t *testing.T) {
	for k, b := range hollowTree() {
		c := allGave(t, hollowTree(), 4, 8)
		if k < 3 {
			holdHandBlock(t, c, b, k)
		} else {
			notPutByHand(t, c, b)
		}
		// Nobody gave a vote: blocks on the first one alone are left.
		c.Said = nil
		if k < 2 {
			holdHandBlock(t, c, b, k)
		} else {
			notPutByHand(t, c, b)
		}
	}
	// The first of two that are the same has the number; one that PutBlock would not put has it, too.
	c := newCluster(t, 4, true, 0)
	c.Tree = []impl.Block{first(), {View: -4}, {View: -4}, {Parent: 70, View: 5}, {View: 3, Cmds: []impl.Cmd{{}}}}
	for k, want := range []int{0, 1, 1, 3, 4} {
		holdHandBlock(t, c, c.Tree[k], want)
	}
}

// unsigned is a tree of so many blocks, each one on the first one, with nothing for its Just.
func unsigned(size int) []impl.Block {
	var tree []impl.Block
	for i := range size {
		tree = append(tree, impl.Block{View: 1 + i%9, Cmds: []impl.Cmd{set("a", i)}})
	}
	if size > 0 {
		tree[0] = first()
	}
	return tree
}

func TestHandBlockRoom(t *testing.T) {
	for _, size := range []int{0, 1, 2, impl.MaxBlocks - 2, impl.MaxBlocks - 1, impl.MaxBlocks, impl.MaxBlocks + 1, impl.MaxBlocks + 9} {
		c := newCluster(t, 4, false, 8)
		c.Tree = unsigned(size)
		b := impl.Block{View: 5, Cmds: []impl.Cmd{set("new", 1)}}
		if size == 0 || size >= impl.MaxBlocks {
			notPutByHand(t, c, b)
		} else {
			got := holdHandBlock(t, c, b, size)
			holdHandBlock(t, got, b, size)
		}
		for k, there := range c.Tree {
			holdHandBlock(t, c, there, k)
		}
	}
}

func TestLieVote(t *testing.T) {
	c := handHall()
	holdLieVote(t, c, 3, 0, impl.PhOne, 1, impl.Letter{Kind: impl.LtVote, From: 3, View: 1, Vote: impl.Vote{Phase: impl.PhOne, View: 1, Block: 1, By: 3}})
	holdLieVote(t, c, 3, 2, impl.PhChain, 3, impl.Letter{Kind: impl.LtVote, From: 3, To: 2, View: 2, Vote: impl.Vote{Phase: impl.PhChain, View: 2, Block: 3, By: 3}})
	// It tells of one who does not lie, too, but may not be put in then.
	holdLieVote(t, c, 1, 1, impl.PhTwo, 2, impl.Letter{Kind: impl.LtVote, From: 1, To: 1, View: 1, Vote: impl.Vote{Phase: impl.PhTwo, View: 1, Block: 2, By: 1}})
	// The first block has View 0, as have those that are none.
	holdLieVote(t, c, 3, 0, impl.PhOne, 0, impl.Letter{Kind: impl.LtVote, From: 3, Vote: impl.Vote{Phase: impl.PhOne, By: 3}})
	holdLieVote(t, c, 3, 0, impl.PhOne, 4, impl.Letter{Kind: impl.LtVote, From: 3, Vote: impl.Vote{Phase: impl.PhOne, Block: 4, By: 3}})
	holdLieVote(t, c, 3, 0, impl.PhOne, -1, impl.Letter{Kind: impl.LtVote, From: 3, Vote: impl.Vote{Phase: impl.PhOne, Block: -1, By: 3}})
	may := 0
	for _, i := range someBys() {
		for _, to := range someBys() {
			for _, phase := range somePhases() {
				for _, k := range []int{math.MinInt, -1, 0, 1, 2, 3, 4, 5, math.MaxInt} {
					want := plainLieVote(c, i, to, phase, k)
					holdLieVote(t, c, i, to, phase, k, want)
					// By those who lie it may be put in, when it is right.
					right := i == 3 && to >= 0 && to < 4 && phase >= 1 && phase <= 4 && k >= 1 && k < 4
					holdMayHand(t, c, want, right)
					if right {
						may++
					}
				}
			}
		}
	}
	if may != 4*4*3 {
		t.Errorf("%d may be put in", may)
	}
	// Whatever stands in the tree: its View is told.
	for _, num := range fieldNumbers() {
		c.Tree = []impl.Block{{View: num}, {View: num}}
		for k := range 2 {
			holdLieVote(t, c, 3, 0, 1, k, impl.Letter{Kind: impl.LtVote, From: 3, View: num, Vote: impl.Vote{Phase: 1, View: num, Block: k, By: 3}})
		}
	}
}

// Votes in Said make a Qc with those who lie when they are enough, and not with one fewer.
func TestLieQc(t *testing.T) {
	for n := 1; n <= impl.MaxPeers; n++ {
		tree := askTree(n)
		for _, liars := range someLiars(n) {
			for signers := range 1 << n {
				phase, k := 1+signers%4, 1+signers%5
				c := newCluster(t, n, signers%2 == 0, liars)
				c.Tree, c.Said = tree, votesOf(phase, tree[k].View, k, signers)
				all := signers | liars
				if plainCount(all) < plainQuorum(n) {
					noLieQc(t, c, phase, k)
					continue
				}
				q := signedBy(tree, phase, k, all)
				holdLieQc(t, c, phase, k, q, true)
				// It is right, and may be put in by those who lie.
				if !impl.QcRight(tree, n, q) || !impl.Proven(c.Said, q, liars) {
					t.Fatalf("LieQc of %+v is %+v", c, q)
				}
				for i, lies := range liesOf(liars, n) {
					holdMayHand(t, c, impl.Letter{Kind: impl.LtQc, From: i, View: q.View, Qc: q}, lies)
				}
				// Of another Phase, or another block, there are none.
				noLieQc(t, c, phase%4+1, k)
				noLieQc(t, c, phase, k%5+1)
				// k that is none, though such votes stand in Said.
				for _, none := range []int{math.MinInt, -1, len(tree), len(tree) + 1, math.MaxInt} {
					c.Said = append(votesOf(phase, 0, none, signers), votesOf(phase, tree[k].View, none, signers)...)
					noLieQc(t, c, phase, none)
				}
			}
		}
	}
}

func TestLieQcByHand(t *testing.T) {
	c := handHall()
	holdLieQc(t, c, impl.PhOne, 1, impl.Qc{Phase: impl.PhOne, View: 1, Block: 1, Signers: 11}, true)
	holdLieQc(t, c, impl.PhTwo, 1, impl.Qc{Phase: impl.PhTwo, View: 1, Block: 1, Signers: 15}, true)
	for _, k := range []int{math.MinInt, -1, 0, 2, 3, 4, 5, math.MaxInt} {
		for _, phase := range somePhases() {
			noLieQc(t, c, phase, k)
		}
	}
	for _, phase := range somePhases() {
		if phase != impl.PhOne && phase != impl.PhTwo {
			noLieQc(t, c, phase, 1)
		}
	}
	// Without liars: two are too few, three are enough.
	c.Liars = 0
	noLieQc(t, c, impl.PhOne, 1)
	holdLieQc(t, c, impl.PhTwo, 1, impl.Qc{Phase: impl.PhTwo, View: 1, Block: 1, Signers: 7}, true)
	c.Said = nil
	noLieQc(t, c, impl.PhTwo, 1)
	// Their votes in Said count once; many who lie are enough alone, also of the first block, and of a Phase that is none.
	c = handHall()
	c.Said = append(c.Said, votesOf(impl.PhOne, 1, 2, 8)...)
	noLieQc(t, c, impl.PhOne, 2)
	c.Liars, c.Said = 14, nil
	for k := range 4 {
		for _, phase := range somePhases() {
			holdLieQc(t, c, phase, k, signedBy(c.Tree, phase, k, 14), true)
		}
	}
	noLieQc(t, c, impl.PhOne, 4)
	noLieQc(t, c, impl.PhOne, -1)
	// Only those below N lie, and signers are those below MaxPeers.
	c.Liars = -1
	for n, signers := range map[int]int{1: 1, 3: 7, 4: 15, 7: 127, 8: 127, 9: 127, 10: 127} {
		c.N = n
		holdLieQc(t, c, impl.PhOne, 1, signedBy(c.Tree, impl.PhOne, 1, signers), true)
	}
	for _, n := range []int{11, 12, 1000, math.MaxInt} {
		c.N = n
		noLieQc(t, c, impl.PhOne, 1)
	}
	// So few are enough without any.
	for _, n := range []int{0, -1, math.MinInt} {
		c.N = n
		holdLieQc(t, c, impl.PhOne, 1, signedBy(c.Tree, impl.PhOne, 1, 0), true)
	}
}

// tellsOnlyTheTruth is promise 16: no vote of one who does not lie, but those that it gave.
func tellsOnlyTheTruth(said []impl.Vote, n int, liars int, q impl.Qc, more ...impl.Vote) bool {
	tells := slices.Clone(more)
	if q != (impl.Qc{}) {
		tells = append(tells, votesOf(q.Phase, q.View, q.Block, q.Signers)...)
	}
	for _, v := range tells {
		lies := v.By >= 0 && v.By < n && strings.HasSuffix(strconv.FormatInt(int64(liars>>v.By), 2), "1")
		if !lies && !slices.Contains(said, v) {
			return false
		}
	}
	return true
}

// holdHandPromise is promise 16, of a letter that is tried by hand.
func holdHandPromise(t *testing.T, c impl.Cluster, l impl.Letter) bool {
	t.Helper()
	next, ok := impl.HandLetter(c, l)
	if ok != (impl.MayHand(c, l) && len(c.Net) < impl.MaxNet) {
		t.Fatalf("HandLetter of\n%+v\n%+v is %v", c, l, ok)
	}
	if !ok {
		if !sameCluster(next, c) {
			t.Fatalf("%+v is refused, and leaves\n%+v, was\n%+v", l, next, c)
		}
		return false
	}
	if !plainLies(c, l.From) || l.Kind == impl.LtVote && !plainLies(c, l.Vote.By) || l.Kind != impl.LtVote && l.Vote != (impl.Vote{}) {
		t.Fatalf("%+v is put in, in the name of one who does not lie:\n%+v", l, c)
	}
	if !tellsOnlyTheTruth(c.Said, c.N, c.Liars, l.Qc) {
		t.Fatalf("%+v is put in, and tells of a vote that nobody gave:\n%+v", l, c)
	}
	if l.Kind == impl.LtBlock && c.Tree[l.Block].Just != l.Qc {
		t.Fatalf("%+v is put in, with a Just of its own", l)
	}
	// Nothing else is changed: no vote is Said by hand.
	want := c
	want.Net = slices.Concat(c.Net, []impl.Letter{l})
	if !sameCluster(next, want) {
		t.Fatalf("%+v is put in:\n%+v, want\n%+v", l, next, want)
	}
	return true
}

// Promise 16, of every small letter that there is: each Kind, From and To of all, with any Qc or vote.
func TestLiarsSayNothingInTheNameOfOthers(t *testing.T) {
	for _, liars := range someLiars(4) {
		c := handHall()
		c.Liars = liars
		put := map[int]int{}
		try := func(l impl.Letter) {
			for _, from := range []int{-1, 0, 1, 2, 3, 4} {
				for _, to := range []int{0, 4}[:1+l.View%2] {
					l.From, l.To = from, to
					if holdHandPromise(t, c, l) {
						put[l.Kind]++
					}
				}
			}
		}
		for view := range 5 {
			for block := range 5 {
				for phase := range 6 {
					for by := range 5 {
						try(impl.Letter{Kind: impl.LtVote, View: 1, Vote: impl.Vote{Phase: phase, View: view, Block: block, By: by}})
						try(impl.Letter{Kind: impl.LtVote, View: view, Vote: impl.Vote{Phase: phase, View: view, Block: block, By: by}})
					}
					for signers := range 17 {
						q := impl.Qc{Phase: phase, View: view, Block: block, Signers: signers}
						for _, kind := range []int{impl.LtQc, impl.LtView} {
							try(impl.Letter{Kind: kind, View: view, Qc: q})
							try(impl.Letter{Kind: kind, View: view + 1, Qc: q})
						}
						try(impl.Letter{Kind: impl.LtBlock, View: 2, Block: 3, Qc: q})
						// The same Just of a block that stands in the tree, however it came there.
						was := c.Tree
						c.Tree = append(was[:4:4], impl.Block{Parent: block, View: 3, Just: q})
						try(impl.Letter{Kind: impl.LtBlock, View: 3, Block: 4, Qc: q})
						c.Tree = was
					}
				}
			}
		}
		for kind := impl.LtBlock; kind <= impl.LtView; kind++ {
			if (liars == 0) != (put[kind] == 0) {
				t.Errorf("with liars %b %d of Kind %d are put in", liars, put[kind], kind)
			}
		}
	}
}

// Promise 16, of every small block: its Just tells of no vote that was not given.
func TestLiarsPutNoBlockInTheNameOfOthers(t *testing.T) {
	for _, liars := range someLiars(4) {
		c := handHall()
		c.Liars = liars
		put, refused := 0, 0
		for phase := range 6 {
			for view := range 4 {
				for block := range 5 {
					for signers := range 17 {
						q := impl.Qc{Phase: phase, View: view, Block: block, Signers: signers}
						b := impl.Block{Parent: block, View: 5, Just: q}
						next, k := impl.HandBlock(c, b)
						if k == -1 {
							refused++
							if !sameCluster(next, c) {
								t.Fatalf("%+v is refused, and leaves\n%+v", b, next)
							}
							continue
						}
						put++
						if !tellsOnlyTheTruth(c.Said, 4, liars, q) || q != (impl.Qc{}) && plainCount(q.Signers) < 3 {
							t.Fatalf("%+v is put, and tells of a vote that nobody gave:\n%+v", b, c)
						}
						if !slices.Equal(next.Said, c.Said) || len(next.Net) != 0 || len(next.Tree) != 5 || k != 4 {
							t.Fatalf("%+v is put: %+v, %d", b, next, k)
						}
					}
				}
			}
		}
		if put < 2 || refused < 1000 {
			t.Errorf("with liars %b %d blocks are put, %d are refused", liars, put, refused)
		}
	}
}

// handLife is a drawn life in which those who lie try whatever there is by hand.
type handLife struct {
	clusterLife
	heard []impl.Letter
}

func (h *handLife) phase() int {
	if h.c.Chain {
		return impl.PhChain
	}
	return 1 + h.draw(3)
}

// forged is a letter that was in the Net, or a lie, with some of it turned.
func (h *handLife) forged() impl.Letter {
	c := h.c
	k := h.draw(len(c.Tree))
	l := impl.LieVote(c, h.draw(c.N), h.draw(c.N), h.phase(), k)
	if len(h.heard) > 0 && h.draw(3) > 0 {
		l = h.heard[h.draw(len(h.heard))]
	}
	for range h.draw(3) {
		switch h.draw(8) {
		case 0:
			l.From = h.draw(c.N)
		case 1:
			l.Vote.By = h.draw(c.N)
		case 2:
			l.From = h.draw(c.N)
			l.Vote.By = l.From
		case 3:
			l.Qc.Signers ^= 1 << h.draw(c.N)
		case 4:
			l.Qc.Signers |= c.Liars
		case 5:
			l.Qc.Phase = h.phase()
		case 6:
			l.Qc = impl.Qc{Phase: h.phase(), View: c.Tree[k].View, Block: k, Signers: h.draw(1 << c.N)}
		default:
			l.Kind = 1 + h.draw(4)
		}
	}
	return l
}

// lie is one that may be put in, when the votes are there.
func (h *handLife) lie(i int) impl.Letter {
	c := h.c
	k, to := h.draw(len(c.Tree)), h.draw(c.N)
	q, enough := impl.LieQc(c, h.phase(), k)
	switch h.draw(5) {
	case 0:
		return impl.LieVote(c, i, to, h.phase(), k)
	case 1, 2:
		// Most blocks have not enough votes: one that has is looked for.
		for !enough && k > 0 {
			k--
			q, enough = impl.LieQc(c, h.phase(), k)
		}
		if enough {
			return impl.Letter{Kind: impl.LtQc, From: i, To: to, View: q.View, Qc: q}
		}
	case 3:
		if k > 0 {
			return impl.Letter{Kind: impl.LtBlock, From: i, To: to, View: c.Tree[k].View, Block: k, Qc: c.Tree[k].Just}
		}
	}
	return newsTo(i, to, q.View+1+h.draw(4), q)
}

func (h *handLife) tries(t *testing.T, l impl.Letter) {
	t.Helper()
	if holdHandPromise(t, h.c, l) {
		h.counts["put of "+strconv.Itoa(l.Kind)]++
	} else {
		h.counts["refused"]++
	}
	h.does(t, handing(l))
}

func (h *handLife) triesBlock(t *testing.T) {
	t.Helper()
	k := h.draw(len(h.c.Tree))
	q, _ := impl.LieQc(h.c, h.phase(), k)
	if h.draw(3) == 0 {
		q.Signers ^= 1 << h.draw(h.c.N)
	}
	// There is room left for the blocks of those who don't lie.
	if len(h.c.Tree) > 30 {
		return
	}
	b := impl.Block{Parent: q.Block, View: plainView(h.c.Tree, q.Block) + 1 + h.draw(6), Cmds: []impl.Cmd{set("x", h.draw(4))}, Just: q}
	_, put := plainHandBlock(h.c, b)
	if put != -1 && !tellsOnlyTheTruth(h.c.Said, h.c.N, h.c.Liars, q) {
		t.Fatalf("%+v is put, and tells of a vote that nobody gave", b)
	}
	if h.does(t, handingBlock(b)) {
		h.counts["blocks"]++
	} else {
		h.counts["refused blocks"]++
	}
}

func (h *handLife) byHand(t *testing.T) {
	t.Helper()
	for _, l := range h.c.Net {
		// What one who does not lie wrote can not be put in by hand, either.
		if !plainLies(h.c, l.From) && impl.MayHand(h.c, l) {
			t.Fatalf("%+v may be put in by hand", l)
		}
	}
	if len(h.c.Net) > 0 {
		h.heard = append(h.heard, h.c.Net[h.draw(len(h.c.Net))])
	}
	for i := range h.c.N {
		if plainLies(h.c, i) {
			h.tries(t, h.lie(i))
		}
	}
	if len(h.c.Net) < 40 {
		h.tries(t, h.forged())
	}
	h.triesBlock(t)
}

// holdProven asks that all that anybody knows tells of votes that were given.
func (h *handLife) holdProven(t *testing.T) {
	t.Helper()
	c := h.c
	for _, b := range c.Tree {
		if !tellsOnlyTheTruth(c.Said, c.N, c.Liars, b.Just) {
			t.Fatalf("%+v stands on votes that nobody gave:\n%+v", b, c)
		}
	}
	for _, l := range c.Net {
		if !tellsOnlyTheTruth(c.Said, c.N, c.Liars, l.Qc) || l.Kind == impl.LtVote && !tellsOnlyTheTruth(c.Said, c.N, c.Liars, impl.Qc{}, l.Vote) {
			t.Fatalf("%+v tells of votes that nobody gave:\n%+v", l, c)
		}
	}
	for i, p := range c.Peers {
		if !plainLies(c, i) && (!tellsOnlyTheTruth(c.Said, c.N, c.Liars, p.High, p.Votes...) || !tellsOnlyTheTruth(c.Said, c.N, c.Liars, p.Lock)) {
			t.Fatalf("%+v knows of votes that nobody gave:\n%+v", p, c)
		}
	}
}

func (h *handLife) holdRows(t *testing.T) int {
	t.Helper()
	blocks := 0
	for i, p := range h.c.Peers {
		if plainLies(h.c, i) {
			continue
		}
		blocks += len(p.Row)
		for j, other := range h.c.Peers {
			if !plainLies(h.c, j) && !plainBeginning(p.Row, other.Row) && !plainBeginning(other.Row, p.Row) {
				t.Fatalf("%d has %v, %d has %v", i, p.Row, j, other.Row)
			}
		}
	}
	return blocks
}

func (h *handLife) goesOn(t *testing.T) {
	t.Helper()
	size := len(h.c.Net)
	switch at := h.draw(60); {
	case at < 3:
		h.does(t, offering(set(string([]byte{byte('a' + h.draw(3))}), h.draw(100))))
	case at < 8:
		h.byHand(t)
	case at < 9:
		h.does(t, falling(h.draw(h.c.N)))
	case size == 0:
		for i := range h.c.N {
			h.does(t, waiting(i))
		}
	case at < 11:
		h.does(t, losing(h.draw(size)))
	default:
		// Most come in their order, some far too late.
		h.does(t, carrying(h.draw(min(size, 1+h.draw(9)))))
	}
	for i := range h.c.N {
		h.does(t, showing(i))
	}
}

// Promise 16, in drawn lives in both ways: whatever those who lie try, nobody comes to know of a vote that was not given.
func TestLivesWithLiesByHand(t *testing.T) {
	for _, chain := range []bool{false, true} {
		counts, blocks := map[string]int{}, 0
		for seed := range uint32(60) {
			n := []int{4, 7, 5, 4, 6, 7}[seed%6]
			liars := 1 << (int(seed) % n)
			if n == 7 && seed%4 > 0 {
				liars |= 1 << ((int(seed) + 3) % n)
			}
			h := &handLife{clusterLife: clusterLife{newCluster(t, n, chain, liars), drawn(seed*977 + 3), counts}}
			for i := range 300 {
				h.goesOn(t)
				if i%20 == 0 {
					h.holdProven(t)
				}
			}
			h.holdProven(t)
			blocks += h.holdRows(t)
		}
		for _, what := range []string{"put of 1", "put of 2", "put of 3", "put of 4", "refused", "blocks", "refused blocks", "said"} {
			if counts[what] < 150 {
				t.Errorf("with chain %v: only %d of %s", chain, counts[what], what)
			}
		}
		if blocks < 50 {
			t.Errorf("with chain %v: only %d blocks go through", chain, blocks)
		}
	}
}

// handLetters are letters to be tried in a cluster: right ones of those who lie and of others, and wild ones.
func handLetters(c impl.Cluster, from int) []impl.Letter {
	var out []impl.Letter
	tree := c.Tree[:min(len(c.Tree), 12)]
	for k := range tree {
		for phase := 0; phase <= 5; phase++ {
			i := (k + phase + from) % 8
			q, _ := plainLieQc(c, phase, k)
			out = append(out, plainLieVote(c, i, phase, phase, k), impl.Letter{Kind: impl.LtQc, From: i, View: q.View, Qc: q}, newsTo(i, 0, max(q.View, 0)+1, q))
		}
		for i := range 8 {
			out = append(out, impl.Letter{Kind: impl.LtBlock, From: i, To: k % 4, View: tree[k].View, Block: k, Qc: tree[k].Just}, newsTo(i, 0, 1, impl.Qc{}), newsTo(i, 1, 30, signedBy(tree, 1+k%4, k, 127>>(k%3))))
		}
	}
	for i, l := range append(wildLetters(), c.Net[:min(len(c.Net), 20)]...) {
		if i%9 == from%9 {
			out = append(out, l)
		}
	}
	return out
}

func handBlocks(c impl.Cluster, from int) []impl.Block {
	out := slices.Clone(c.Tree[:min(len(c.Tree), 6)])
	for k := range c.Tree[:min(len(c.Tree), 8)] {
		for phase := 0; phase <= 5; phase++ {
			q, _ := plainLieQc(c, phase, k)
			out = append(out, impl.Block{Parent: k, View: max(c.Tree[k].View, 0) + 1, Cmds: []impl.Cmd{set("q", phase)}, Just: q})
		}
		out = append(out, impl.Block{Parent: k, View: impl.MaxView, Just: c.Tree[k].Just}, impl.Block{Parent: 0, View: 6 + k})
	}
	for i, b := range wildBlocks() {
		if i%17 == from%17 {
			out = append(out, b)
		}
	}
	return out
}

// Each function answers as the chapter says, of everything, in both ways.
func TestHandByTheWords(t *testing.T) {
	clusters := append(wrongClusters(), handHall(), allGave(t, letterTree(7), 7, 3), allGave(t, hollowTree(), 4, 2))
	for _, chain := range []bool{false, true} {
		for i, c := range wellUsed(t, chain, 8, 80) {
			clusters = append(clusters, c)
			c.Liars, c.N = i%9, 4+i%4
			c.Net = append(slices.Clone(c.Net), someNews(max(0, 58-len(c.Net)+i%4))...)
			clusters = append(clusters, c)
		}
	}
	counts := map[string]int{}
	for i, c := range clusters {
		// Some of each kind are enough.
		if i%4 > 0 {
			continue
		}
		for _, l := range handLetters(c, i) {
			if impl.MayHand(c, l) != plainMayHand(c, l) {
				t.Fatalf("MayHand of\n%+v\n%+v is %v", c, l, impl.MayHand(c, l))
			}
			if _, ok := holdDeed(t, c, handing(l)); ok {
				counts["letters"]++
			} else {
				counts["refused letters"]++
			}
		}
		for _, b := range handBlocks(c, i) {
			_, k := plainHandBlock(c, b)
			holdHandBlock(t, c, b, k)
			if k == -1 {
				counts["refused blocks"]++
			} else {
				counts["blocks"]++
			}
		}
		places := []int{math.MinInt, -1, len(c.Tree), math.MaxInt}
		for k := range min(len(c.Tree), 20) {
			places = append(places, k)
		}
		for j, k := range places {
			for _, phase := range somePhases() {
				q, enough := plainLieQc(c, phase, k)
				holdLieQc(t, c, phase, k, q, enough)
				if enough {
					counts["Qcs"]++
				}
				by, to := someBys()[(i+j)%len(someBys())], someBys()[(i*5+j*3)%len(someBys())]
				holdLieVote(t, c, by, to, phase, k, plainLieVote(c, by, to, phase, k))
			}
		}
	}
	for _, what := range []string{"letters", "refused letters", "blocks", "refused blocks", "Qcs"} {
		if counts[what] < 1000 {
			t.Errorf("only %d of %s", counts[what], what)
		}
	}
}

// handDeeds are such as are done, and such as are refused, whatever the cluster is.
func handDeeds(c impl.Cluster) []deed {
	var deeds []deed
	for i, l := range handLetters(c, 2) {
		if i%7 == 0 || plainMayHand(c, l) && i%3 == 0 {
			deeds = append(deeds, handing(l))
		}
	}
	for i, b := range handBlocks(c, 3) {
		if _, k := plainHandBlock(c, b); i%7 == 0 || k != -1 {
			deeds = append(deeds, handingBlock(b))
		}
	}
	return append(deeds, handing(impl.Letter{}), handing(newsTo(3, 0, 5, impl.Qc{})), handingBlock(impl.Block{View: 3, Cmds: []impl.Cmd{set("abc", 1)}}), handingBlock(impl.Block{Parent: -9}))
}

// No argument is changed, nor the spare room behind it, nor is that room looked at; the answer's memory is its own, list by list.
func TestHandOwnMemory(t *testing.T) {
	done := map[string]int{}
	for i, c := range append([]impl.Cluster{handHall(), allGave(t, letterTree(4), 4, 8)}, memoryClusters(t)...) {
		// Some of each kind are enough.
		if i > 1 && i%6 > 0 {
			continue
		}
		asked := roomyCluster(c)
		was, spans := wholeCluster(asked), spansOf(asked)
		for _, d := range handDeeds(c) {
			got, ok := d.done(asked)
			if want, wantOk := d.told(c); ok != wantOk || !sameCluster(got, want) {
				t.Fatalf("%s of\n%+v\nis\n%+v, %v, want\n%+v, %v", d.what, c, got, ok, want, wantOk)
			}
			if both := sharing(spansOf(got), spans); both != "" {
				t.Fatalf("%s (%v): %s share memory", d.what, ok, both)
			}
			soilCluster(got)
			if !sameCluster(wholeCluster(asked), was) {
				t.Fatalf("%s changes what was handed in:\n%+v, was\n%+v", d.what, wholeCluster(asked), was)
			}
			if ok {
				done[strings.Fields(d.what)[0]]++
			}
		}
		for k := range min(len(c.Tree), 5) {
			impl.LieVote(asked, 3, 0, impl.PhOne, k)
			impl.LieQc(asked, impl.PhOne, k)
			impl.MayHand(asked, newsTo(3, 0, 5, impl.Qc{}))
		}
		if !sameCluster(wholeCluster(asked), was) {
			t.Fatalf("a cluster that was only asked is changed:\n%+v, was\n%+v", wholeCluster(asked), was)
		}
	}
	if done["HandLetter"] < 50 || done["HandBlock"] < 50 {
		t.Errorf("only so many are done: %v", done)
	}
}

// A block that is handed in is copied, Cmds and keys too, and is not changed.
func TestHandBlockKeepsNoArgument(t *testing.T) {
	for _, c := range []impl.Cluster{handHall(), newCluster(t, 7, true, 3)} {
		for _, b := range []impl.Block{{View: 3, Cmds: []impl.Cmd{set("abc", 1), add("de", 2)}}, {View: 3, Cmds: []impl.Cmd{set("abc", -1)}}, c.Tree[0]} {
			asked := roomyBlock(b)
			for i := range asked.Cmds {
				asked.Cmds[i].Key = strings.Clone(asked.Cmds[i].Key)
			}
			was := wholeTree([]impl.Block{asked})
			got, k := impl.HandBlock(c, asked)
			if both := sharing(spansOf(got), append(spansOf(c), spansOfCmds("Cmds", asked.Cmds)...)); both != "" {
				t.Errorf("HandBlock: %s share memory", both)
			}
			if k != -1 && !plainSame(got.Tree[k], b) {
				t.Errorf("HandBlock puts %+v", got.Tree[k])
			}
			soilCluster(got)
			if !sameTree(wholeTree([]impl.Block{asked}), was) {
				t.Errorf("HandBlock changes what was handed in: %+v", asked)
			}
		}
	}
}

// Nothing is kept from one call to another.
func TestHandAnswersTheSameEachTime(t *testing.T) {
	for _, c := range append(wellUsed(t, false, 2, 50), handHall()) {
		for _, d := range handDeeds(c) {
			want, wantOk := d.done(c)
			for range 2 {
				if got, ok := d.done(c); ok != wantOk || !sameCluster(got, want) {
					t.Fatalf("%s is\n%+v, %v, was\n%+v, %v", d.what, got, ok, want, wantOk)
				}
			}
		}
	}
}

// Several may ask at the same time, of one cluster.
func TestHandAtTheSameTime(t *testing.T) {
	c := handHall()
	deeds := handDeeds(c)
	wrong := make(chan string, len(deeds))
	for _, d := range deeds {
		go func() {
			want, wantOk := d.told(c)
			if got, ok := d.done(c); ok != wantOk || !sameCluster(got, want) {
				wrong <- d.what
				return
			}
			wrong <- ""
		}()
	}
	for range deeds {
		if what := <-wrong; what != "" {
			t.Errorf("%s is another one", what)
		}
	}
}

// The chapter 'Ways': what is wrong is an error that carries a code, asked for with errors.As: a struct with an Error method has a code, it is asked for there, and each function that may refuse something reaches that.
func TestWhatIsWrongCarriesACode(t *testing.T) {
	file, err := parser.ParseFile(token.NewFileSet(), "../impl/l16_hand.go", nil, 0)
	if err != nil {
		t.Fatal(err)
	}
	carrier := errorWithNumber(file)
	if carrier == "" {
		t.Fatal("no struct with an Error method has a number")
	}
	functions, asks := map[string]*ast.FuncDecl{}, map[string]bool{}
	for _, d := range file.Decls {
		if f, ok := d.(*ast.FuncDecl); ok {
			functions[f.Name.Name] = f
			asks[f.Name.Name] = asksAs(f, carrier)
		}
	}
	for _, from := range []string{"MayHand", "HandLetter", "HandBlock", "LieQc"} {
		reached, found := []string{from}, false
		for i := 0; i < len(reached); i++ {
			found = found || asks[reached[i]]
			ast.Inspect(functions[reached[i]], func(n ast.Node) bool {
				if name, ok := n.(*ast.Ident); ok && functions[name.Name] != nil && !slices.Contains(reached, name.Name) {
					reached = append(reached, name.Name)
				}
				return true
			})
		}
		if !found {
			t.Errorf("%s asks for no code with errors.As", from)
		}
	}
}

// errorWithNumber is the name of a struct that has a number, and a method Error.
func errorWithNumber(file *ast.File) string {
	numbered, found := map[string]bool{}, ""
	ast.Inspect(file, func(n ast.Node) bool {
		spec, ok := n.(*ast.TypeSpec)
		if !ok {
			return true
		}
		if fields, ok := spec.Type.(*ast.StructType); ok {
			for _, f := range fields.Fields.List {
				of, ok := f.Type.(*ast.Ident)
				numbered[spec.Name.Name] = numbered[spec.Name.Name] || ok && of.Name == "int"
			}
		}
		return true
	})
	for _, d := range file.Decls {
		f, ok := d.(*ast.FuncDecl)
		if !ok || f.Recv == nil || f.Name.Name != "Error" {
			continue
		}
		of := f.Recv.List[0].Type
		if star, ok := of.(*ast.StarExpr); ok {
			of = star.X
		}
		if name, ok := of.(*ast.Ident); ok && numbered[name.Name] {
			found = name.Name
		}
	}
	return found
}

// asksAs tells whether a function asks with errors.As for one of this type.
func asksAs(f *ast.FuncDecl, carrier string) bool {
	typed, asked := false, false
	ast.Inspect(f, func(n ast.Node) bool {
		switch x := n.(type) {
		case *ast.ValueSpec:
			of, ok := x.Type.(*ast.Ident)
			typed = typed || ok && of.Name == carrier
		case *ast.CallExpr:
			of, ok := x.Fun.(*ast.SelectorExpr)
			if !ok || of.Sel.Name != "As" {
				return true
			}
			on, ok := of.X.(*ast.Ident)
			asked = asked || ok && on.Name == "errors"
		}
		return true
	})
	return typed && asked
}
