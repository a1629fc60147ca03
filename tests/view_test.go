package tests

import (
	"math"
	"reflect"
	"slices"
	"testing"

	"loop.example/g00715/impl"
)

func viewPlan() impl.Plan { return impl.Plan{Procs: 2, Nodes: 6, Vers: 12, Guides: 2} }

// viewArena is a list to which 9 was added at 1, 5 at 2, and 63 at 4; of which 5 was taken out at 6, and unlinked at 8;
// and to which 20 is added now, by a version that has no stamp yet. Its camera is at 9.
func viewArena() impl.Arena {
	return impl.Arena{
		Camera: 9,
		Slots:  []int64{-1, 2},
		Guides: []int64{1, 4},
		Nodes: []impl.Node{{Key: -1, Head: 8}, {Key: 5, Value: 50, Head: 7}, {Key: 9, Value: 90, Head: 10},
			{Key: 20, Value: 0, Head: 9}, {Key: 63, Value: 9999, Head: 5}},
		Vers: []impl.Ver{
			{Next: -1, Prev: -1},
			{Next: -1, Prev: -1},
			{Next: 2, Stamp: 1, Prev: 0, Kind: impl.VrPut},
			{Next: 2, Prev: -1},
			{Next: 1, Stamp: 2, Prev: 2, Kind: impl.VrPut},
			{Next: -1, Prev: -1},
			{Next: 4, Stamp: 4, Prev: 1, Kind: impl.VrPut},
			{Next: 2, Gone: true, Stamp: 6, Prev: 3, Kind: impl.VrDel},
			{Next: 2, Stamp: 8, Prev: 4},
			{Next: 4, Prev: -1},
			{Next: 3, Stamp: -1, Prev: 6, Kind: impl.VrPut},
		},
	}
}

// plainArena has as many nodes behind the head as there are Nexts for them; the link of each, the head's first, has one version, of stamp 0.
func plainArena(nexts ...int64) planned {
	p := impl.Plan{Procs: 1, Nodes: int64(len(nexts)), Vers: int64(len(nexts)), Guides: 1}
	a := impl.BlankArena(p)
	a.Vers[0].Next = nexts[0]
	for i, next := range nexts[1:] {
		n := int64(i) + 1
		a.Nodes = append(a.Nodes, impl.Node{Key: n, Value: 10 * n, Head: n})
		a.Vers = append(a.Vers, impl.Ver{Next: next, Prev: -1})
	}
	return planned{p, a}
}

// goneIn is the same list, these nodes being gone.
func goneIn(list planned, gone ...int64) planned {
	for _, n := range gone {
		list.a.Vers[list.a.Nodes[n].Head].Gone = true
	}
	return list
}

func checkNodes(t *testing.T, why string, got []int64, want ...int64) {
	t.Helper()
	if !slices.Equal(got, want) {
		t.Errorf("%s: nodes %v, not %v", why, got, want)
	}
}

// checkPairs asks for the Pairs of these nodes.
func checkPairs(t *testing.T, why string, a impl.Arena, got []impl.Pair, nodes ...int64) {
	t.Helper()
	want := []impl.Pair{}
	for _, n := range nodes {
		want = append(want, impl.Pair{Key: a.Nodes[n].Key, Value: a.Nodes[n].Value})
	}
	if !slices.Equal(got, want) {
		t.Errorf("%s: pairs %v, not %v", why, got, want)
	}
}

func TestViewsStampByStamp(t *testing.T) {
	p, a := viewPlan(), viewArena()
	if !impl.ArenaOk(p, a) {
		t.Fatal("the arena is refused")
	}
	for _, c := range []struct {
		stamp    int64
		nodes    []int64
		standing []int64
	}{
		{math.MinInt64, nil, nil}, {-2, nil, nil}, {-1, nil, nil}, {0, nil, nil},
		{1, []int64{2}, []int64{2}},
		{2, []int64{1, 2}, []int64{1, 2}}, {3, []int64{1, 2}, []int64{1, 2}},
		{4, []int64{1, 2, 4}, []int64{1, 2, 4}}, {5, []int64{1, 2, 4}, []int64{1, 2, 4}},
		{6, []int64{1, 2, 4}, []int64{2, 4}}, {7, []int64{1, 2, 4}, []int64{2, 4}},
		{8, []int64{2, 4}, []int64{2, 4}}, {9, []int64{2, 4}, []int64{2, 4}},
		{10, []int64{2, 4}, []int64{2, 4}}, {100, []int64{2, 4}, []int64{2, 4}}, {101, []int64{2, 4}, []int64{2, 4}},
		{1 << 32, []int64{2, 4}, []int64{2, 4}}, {-1 << 32, nil, nil}, {math.MaxInt64, []int64{2, 4}, []int64{2, 4}},
	} {
		if got := impl.NodesAt(p, a, c.stamp); !slices.Equal(got, c.nodes) {
			t.Errorf("at %d: nodes %v, not %v", c.stamp, got, c.nodes)
		}
		checkPairs(t, "at a stamp", a, impl.PairsAt(p, a, c.stamp), c.standing...)
	}
	checkNodes(t, "now", impl.NodesNow(p, a), 2, 3, 4)
	checkPairs(t, "now", a, impl.PairsNow(p, a), 2, 3, 4)
	if want := []impl.Pair{{Key: 9, Value: 90}, {Key: 20}, {Key: 63, Value: 9999}}; !slices.Equal(impl.PairsNow(p, a), want) {
		t.Error("now, number by number:", impl.PairsNow(p, a))
	}
	if want := []impl.Pair{{Key: 5, Value: 50}, {Key: 9, Value: 90}}; !slices.Equal(impl.PairsAt(p, a, 3), want) {
		t.Error("at 3, number by number:", impl.PairsAt(p, a, 3))
	}
}

func TestViewsOfVersionsWithoutAStamp(t *testing.T) {
	p, a := viewPlan(), viewArena()
	for _, stamp := range someStamps() {
		if slices.Contains(impl.NodesAt(p, a, stamp), 3) {
			t.Errorf("at %d: a link that is not stamped is followed", stamp)
		}
	}
	a.Vers[10].Stamp = 9
	checkNodes(t, "ahead of its stamp", impl.NodesAt(p, a, 8), 2, 4)
	checkNodes(t, "at its stamp", impl.NodesAt(p, a, 9), 2, 3, 4)
	checkPairs(t, "at its stamp", a, impl.PairsAt(p, a, 9), 2, 3, 4)
	// One who goes without a stamp is gone now, and is not gone at any stamp.
	a.Vers[10] = impl.Ver{Next: 4, Gone: true, Stamp: -1, Prev: 6, Kind: impl.VrDel}
	checkPairs(t, "gone, not stamped: now", a, impl.PairsNow(p, a), 4)
	checkPairs(t, "gone, not stamped: at 9", a, impl.PairsAt(p, a, 9), 2, 4)
	a.Vers[10].Stamp = 9
	checkPairs(t, "gone, stamped: at 9", a, impl.PairsAt(p, a, 9), 4)
	checkPairs(t, "gone, stamped: at 8", a, impl.PairsAt(p, a, 8), 2, 4)
	// Nothing at all is stamped: now it is all there, at a stamp there is not even a head.
	none := plainArena(1, 2, -1)
	for i := range none.a.Vers {
		none.a.Vers[i].Stamp = -1
	}
	for _, stamp := range someStamps() {
		checkNodes(t, "no stamps", impl.NodesAt(none.p, none.a, stamp))
		checkPairs(t, "no stamps", none.a, impl.PairsAt(none.p, none.a, stamp))
	}
	checkNodes(t, "no stamps: now", impl.NodesNow(none.p, none.a), 1, 2)
	checkPairs(t, "no stamps: now", none.a, impl.PairsNow(none.p, none.a), 1, 2)
}

// checkBothViews asks now and at the only stamp there is, which must see the same.
func checkBothViews(t *testing.T, why string, list planned, nodes []int64, standing []int64) {
	t.Helper()
	if !impl.ArenaOk(list.p, list.a) {
		t.Fatalf("%s: %+v is refused", why, list.a)
	}
	checkNodes(t, why+", now", impl.NodesNow(list.p, list.a), nodes...)
	checkNodes(t, why+", at 0", impl.NodesAt(list.p, list.a, 0), nodes...)
	checkNodes(t, why+", ahead of all", impl.NodesAt(list.p, list.a, -1))
	checkPairs(t, why+", now", list.a, impl.PairsNow(list.p, list.a), standing...)
	checkPairs(t, why+", at 0", list.a, impl.PairsAt(list.p, list.a, 0), standing...)
	checkPairs(t, why+", ahead of all", list.a, impl.PairsAt(list.p, list.a, -1))
}

func TestViewsPassByWhoIsGone(t *testing.T) {
	line := func() planned { return plainArena(1, 2, 3, 4, -1) }
	all := []int64{1, 2, 3, 4}
	checkBothViews(t, "nobody is gone", line(), all, all)
	checkBothViews(t, "the first one is gone", goneIn(line(), 1), all, []int64{2, 3, 4})
	checkBothViews(t, "one is gone", goneIn(line(), 3), all, []int64{1, 2, 4})
	checkBothViews(t, "two are gone", goneIn(line(), 2, 3), all, []int64{1, 4})
	checkBothViews(t, "the last one is gone", goneIn(line(), 4), all, []int64{1, 2, 3})
	checkBothViews(t, "all but the last are gone", goneIn(line(), 1, 2, 3), all, []int64{4})
	checkBothViews(t, "all are gone", goneIn(line(), 1, 2, 3, 4), all, nil)
	checkBothViews(t, "the head is gone", goneIn(line(), 0), all, all)
	checkBothViews(t, "the head and one are gone", goneIn(line(), 0, 1), all, []int64{2, 3, 4})
}

// Who is gone is so by the version that counts, not by an older or a newer one.
func TestViewsOfOneWhoWasGone(t *testing.T) {
	line := plainArena(1, 2, -1)
	p, a := line.p, line.a
	p.Vers, a.Camera = 10, 20
	a.Vers = append(a.Vers,
		impl.Ver{Next: 2, Gone: true, Stamp: 5, Prev: 1, Kind: impl.VrDel},
		impl.Ver{Next: 2, Stamp: 10, Prev: 3},
		impl.Ver{Next: -1, Gone: true, Stamp: 15, Prev: 4, Kind: impl.VrDel})
	a.Nodes[1].Head = 5
	for _, c := range []struct {
		stamp    int64
		nodes    []int64
		standing []int64
	}{
		{0, []int64{1, 2}, []int64{1, 2}}, {4, []int64{1, 2}, []int64{1, 2}},
		{5, []int64{1, 2}, []int64{2}}, {9, []int64{1, 2}, []int64{2}},
		{10, []int64{1, 2}, []int64{1, 2}}, {14, []int64{1, 2}, []int64{1, 2}},
		{15, []int64{1}, nil}, {20, []int64{1}, nil},
	} {
		checkNodes(t, "gone for a while", impl.NodesAt(p, a, c.stamp), c.nodes...)
		checkPairs(t, "gone for a while", a, impl.PairsAt(p, a, c.stamp), c.standing...)
	}
	checkNodes(t, "gone now", impl.NodesNow(p, a), 1)
	checkPairs(t, "gone now", a, impl.PairsNow(p, a))
}

// A node to which one comes, but which has no version as old as that: it is told of, is not in the list, and ends it.
func TestViewsOfOneWithoutAVersion(t *testing.T) {
	for _, stamp := range []int64{-1, 4, 9} {
		list := plainArena(1, 2, 3, -1)
		list.a.Camera = 9
		list.a.Vers[2].Stamp = stamp
		asked := []int64{0, 3}
		if stamp == -1 {
			asked = []int64{0, 9, 100, math.MaxInt64}
		}
		for _, at := range asked {
			checkNodes(t, "no version yet", impl.NodesAt(list.p, list.a, at), 1, 2)
			checkPairs(t, "no version yet", list.a, impl.PairsAt(list.p, list.a, at), 1)
		}
		checkNodes(t, "no version yet: now", impl.NodesNow(list.p, list.a), 1, 2, 3)
		checkPairs(t, "no version yet: now", list.a, impl.PairsNow(list.p, list.a), 1, 2, 3)
		if stamp >= 0 {
			checkNodes(t, "a version by then", impl.NodesAt(list.p, list.a, stamp), 1, 2, 3)
			checkPairs(t, "a version by then", list.a, impl.PairsAt(list.p, list.a, stamp), 1, 2, 3)
		}
	}
	// The first one has none, and the head has none.
	list := plainArena(1, 2, -1)
	list.a.Camera, list.a.Vers[1].Stamp = 9, 5
	checkNodes(t, "the first one has none", impl.NodesAt(list.p, list.a, 4), 1)
	checkPairs(t, "the first one has none", list.a, impl.PairsAt(list.p, list.a, 4))
	list.a.Vers[0].Stamp = 7
	checkNodes(t, "the head has none", impl.NodesAt(list.p, list.a, 6))
	checkPairs(t, "the head has none", list.a, impl.PairsAt(list.p, list.a, 6))
	checkNodes(t, "the head has one", impl.NodesAt(list.p, list.a, 7), 1, 2)
}

// One that is cut off has no version left for an old stamp.
func TestViewsOfWhatIsCutOff(t *testing.T) {
	p, a := viewPlan(), viewArena()
	a.Vers[6].Prev = -1
	checkNodes(t, "cut off", impl.NodesAt(p, a, 3), 1, 2)
	checkPairs(t, "cut off", a, impl.PairsAt(p, a, 3), 1)
	checkPairs(t, "cut off, later", a, impl.PairsAt(p, a, 4), 1, 2, 4)
	a.Vers[8].Prev = -1
	checkNodes(t, "the head is cut off", impl.NodesAt(p, a, 7))
	checkNodes(t, "the head is cut off, later", impl.NodesAt(p, a, 8), 2, 4)
}

func TestViewsOfLinksThatRunInACircle(t *testing.T) {
	checkBothViews(t, "one of itself", plainArena(1, 1), []int64{1, 1}, []int64{1, 1})
	checkBothViews(t, "two", plainArena(1, 2, 1), []int64{1, 2, 1}, []int64{1, 2, 1})
	checkBothViews(t, "two behind one", plainArena(3, 2, 1, 1), []int64{3, 1, 2, 1}, []int64{3, 1, 2, 1})
	checkBothViews(t, "the last of itself", plainArena(1, 2, 3, 3), []int64{1, 2, 3, 3}, []int64{1, 2, 3, 3})
	checkBothViews(t, "one of two is gone", goneIn(plainArena(1, 2, 1), 1), []int64{1, 2, 1}, []int64{2})
	checkBothViews(t, "both are gone", goneIn(plainArena(1, 2, 1), 1, 2), []int64{1, 2, 1}, nil)
	// There are fewer nodes than the plan has: it is those there are that count.
	list := plainArena(1, 2, 1)
	list.p.Nodes = 60
	checkBothViews(t, "two of sixty", list, []int64{1, 2, 1}, []int64{1, 2, 1})
	// As many nodes as there may be, in a line and in a circle.
	nexts := []int64{}
	for n := int64(1); n < 60; n++ {
		nexts = append(nexts, n)
	}
	checkBothViews(t, "a full line", plainArena(append(slices.Clone(nexts), -1)...), nexts, nexts)
	round := append(slices.Clone(nexts), 1)
	checkBothViews(t, "a full circle", plainArena(round...), round, round)
}

// A circle at one stamp only: the others are not touched by it.
func TestViewsOfACircleOfOldVersions(t *testing.T) {
	list := plainArena(1, 2, 1)
	p, a := list.p, list.a
	p.Vers, a.Camera = 4, 3
	a.Vers = append(a.Vers, impl.Ver{Next: -1, Stamp: 3, Prev: 2})
	a.Nodes[2].Head = 3
	checkNodes(t, "round at 2", impl.NodesAt(p, a, 2), 1, 2, 1)
	checkNodes(t, "an end at 3", impl.NodesAt(p, a, 3), 1, 2)
	checkNodes(t, "an end now", impl.NodesNow(p, a), 1, 2)
	checkPairs(t, "an end now", a, impl.PairsNow(p, a), 1, 2)
}

// Links need not run from lower Keys to higher ones in a right arena: views tell what there is, as it stands.
func TestViewsKeepTheOrderOfTheLinks(t *testing.T) {
	list := plainArena(3, -1, 1, 2)
	checkBothViews(t, "backward", list, []int64{3, 2, 1}, []int64{3, 2, 1})
	if impl.InOrder(impl.PairsNow(list.p, list.a)) {
		t.Error("backward, and taken for in order")
	}
	list.a.Nodes[1].Key, list.a.Nodes[2].Key = 3, 3
	checkBothViews(t, "all alike", list, []int64{3, 2, 1}, []int64{3, 2, 1})
	if impl.InOrder(impl.PairsNow(list.p, list.a)) {
		t.Error("all alike, and taken for in order")
	}
}

func TestViewsOfEmptyLists(t *testing.T) {
	for _, p := range rightPlans() {
		for _, a := range []impl.Arena{impl.BlankArena(p), fullArena(p)} {
			checkNodes(t, "empty, now", impl.NodesNow(p, a))
			checkPairs(t, "empty, now", a, impl.PairsNow(p, a))
			for _, stamp := range []int64{math.MinInt64, -1, 0, 1, 100, math.MaxInt64} {
				checkNodes(t, "empty, at a stamp", impl.NodesAt(p, a, stamp))
				checkPairs(t, "empty, at a stamp", a, impl.PairsAt(p, a, stamp))
			}
			if !impl.InOrder(impl.PairsNow(p, a)) {
				t.Error("an empty list is not in order")
			}
		}
	}
	checkBothViews(t, "nobody is linked", plainArena(-1, 2, 1), nil, nil)
}

// dice are numbers that look thrown, and are the same ones each time.
type dice struct{ state uint64 }

func (d *dice) throw(sides int64) int64 {
	d.state = d.state*6364136223846793005 + 1442695040888963407
	return int64(d.state>>33) % sides
}

// thrownArena is right, and has links of several versions, of any Next, Gone, Stamp and Prev.
func thrownArena(d *dice) planned {
	nodes, vers := 1+d.throw(7), 1+d.throw(24)
	p := impl.Plan{Procs: 1 + d.throw(3), Nodes: nodes + d.throw(3), Vers: vers + d.throw(3), Guides: 1 + d.throw(3)}
	a := impl.BlankArena(p)
	a.Camera = d.throw(8)
	a.Nodes[0].Head = d.throw(vers)
	for range nodes - 1 {
		a.Nodes = append(a.Nodes, impl.Node{Key: d.throw(64), Value: d.throw(10000), Head: d.throw(vers)})
	}
	a.Vers = nil
	for v := range vers {
		next := d.throw(nodes)
		if next == 0 {
			next = -1
		}
		a.Vers = append(a.Vers, impl.Ver{Next: next, Gone: d.throw(3) == 0, Stamp: d.throw(a.Camera+2) - 1, Prev: d.throw(v+1) - 1, Kind: d.throw(3)})
	}
	return planned{p, a}
}

// slowView writes the whole list down by its numbers: the way of each step, then who is in it.
func slowView(a impl.Arena, versionOf func(n int64) int64) ([]int64, []impl.Pair) {
	next := map[int64]int64{}
	standing := map[int64]bool{}
	for n := range int64(len(a.Nodes)) {
		next[n] = -1
		if v := versionOf(n); v >= 0 {
			next[n] = a.Vers[v].Next
			standing[n] = !a.Vers[v].Gone
		}
	}
	nodes, pairs := []int64{}, []impl.Pair{}
	for n := next[0]; n > 0 && len(nodes) < len(a.Nodes); n = next[n] {
		nodes = append(nodes, n)
		if standing[n] {
			pairs = append(pairs, impl.Pair{Key: a.Nodes[n].Key, Value: a.Nodes[n].Value})
		}
	}
	return nodes, pairs
}

func checkSameViews(t *testing.T, list planned, stamps []int64) {
	t.Helper()
	p, a := list.p, list.a
	nodes, pairs := slowView(a, func(n int64) int64 { return a.Nodes[n].Head })
	if got := impl.NodesNow(p, a); !slices.Equal(got, nodes) {
		t.Fatalf("%+v: now nodes %v, not %v", a, got, nodes)
	}
	if got := impl.PairsNow(p, a); !slices.Equal(got, pairs) {
		t.Fatalf("%+v: now pairs %v, not %v", a, got, pairs)
	}
	for _, stamp := range stamps {
		nodes, pairs := slowView(a, func(n int64) int64 { return slowVersionAt(a, n, stamp) })
		if got := impl.NodesAt(p, a, stamp); !slices.Equal(got, nodes) {
			t.Fatalf("%+v: at %d nodes %v, not %v", a, stamp, got, nodes)
		}
		if got := impl.PairsAt(p, a, stamp); !slices.Equal(got, pairs) {
			t.Fatalf("%+v: at %d pairs %v, not %v", a, stamp, got, pairs)
		}
	}
}

func TestViewsAsTheyWereMade(t *testing.T) {
	for _, list := range append(rightArenas(), planned{viewPlan(), viewArena()}) {
		checkSameViews(t, list, []int64{math.MinInt64, -1, 0, 1, 4, 7, 20, 50, 99, 100, math.MaxInt64})
	}
	d := &dice{}
	for range 3000 {
		list := thrownArena(d)
		if !impl.ArenaOk(list.p, list.a) {
			t.Fatalf("%+v: %+v is refused", list.p, list.a)
		}
		checkSameViews(t, list, []int64{math.MinInt64, -2, -1, 0, 1, 2, 3, 4, 5, 6, 7, 8, math.MaxInt64})
	}
}

// risingArena is thrown too, but each version of a link leads to a Key above that of its own node.
func risingArena(d *dice) planned {
	nodes, links := 2+d.throw(11), 1+d.throw(4)
	p := impl.Plan{Procs: 2, Nodes: nodes, Vers: nodes * links, Guides: 2}
	a := impl.BlankArena(p)
	a.Camera = d.throw(10)
	for range nodes - 1 {
		a.Nodes = append(a.Nodes, impl.Node{Key: d.throw(64), Value: d.throw(10000)})
	}
	a.Vers = nil
	for link := range links {
		for n := range nodes {
			ver := impl.Ver{Next: nextAbove(d, a, n), Gone: d.throw(3) == 0, Stamp: d.throw(a.Camera+2) - 1, Prev: -1}
			if link > 0 {
				ver.Prev = a.Nodes[n].Head
			}
			a.Nodes[n].Head = int64(len(a.Vers))
			a.Vers = append(a.Vers, ver)
		}
	}
	return planned{p, a}
}

// nextAbove takes the lowest Key of some that are thrown, so that most lists are not too short.
func nextAbove(d *dice, a impl.Arena, n int64) int64 {
	next := int64(-1)
	for range 4 {
		to := d.throw(int64(len(a.Nodes)))
		if a.Nodes[to].Key > a.Nodes[n].Key && (next == -1 || a.Nodes[to].Key < a.Nodes[next].Key) {
			next = to
		}
	}
	return next
}

// keysRise is asked beside InOrder, so that the one that is tested need not be trusted.
func keysRise(list []impl.Pair) bool {
	for i := range list {
		for j := range i {
			if list[j].Key >= list[i].Key {
				return false
			}
		}
	}
	return true
}

// Promise 4.
func TestViewsOfRisingLinksAreInOrder(t *testing.T) {
	d := &dice{}
	long, passed := 0, 0
	for range 2000 {
		list := risingArena(d)
		if !impl.ArenaOk(list.p, list.a) {
			t.Fatalf("%+v: %+v is refused", list.p, list.a)
		}
		views := [][]impl.Pair{impl.PairsNow(list.p, list.a)}
		for stamp := int64(-1); stamp <= list.a.Camera+1; stamp++ {
			views = append(views, impl.PairsAt(list.p, list.a, stamp))
			if len(views[len(views)-1]) < len(impl.NodesAt(list.p, list.a, stamp)) {
				passed++
			}
		}
		for i, view := range views {
			if !impl.InOrder(view) || !keysRise(view) {
				t.Fatalf("%+v: view %d is %v", list.a, i, view)
			}
			if len(view) >= 3 {
				long++
			}
		}
	}
	if long < 500 || passed < 500 {
		t.Errorf("only %d views of three and more, only %d that passed one by", long, passed)
	}
}

func TestInOrder(t *testing.T) {
	for _, c := range []struct {
		keys []int64
		want bool
	}{
		{nil, true}, {[]int64{0}, true}, {[]int64{-7}, true}, {[]int64{math.MinInt64}, true}, {[]int64{math.MaxInt64}, true},
		{[]int64{0, 1}, true}, {[]int64{-1, 0}, true}, {[]int64{5, 63}, true}, {[]int64{1, 2, 3, 4, 5}, true},
		{[]int64{0, 0}, false}, {[]int64{-1, -1}, false}, {[]int64{5, 5, 6}, false}, {[]int64{4, 5, 5}, false}, {[]int64{1, 3, 3, 4}, false},
		{[]int64{1, 0}, false}, {[]int64{0, -1}, false}, {[]int64{2, 1, 3}, false}, {[]int64{1, 3, 2}, false}, {[]int64{1, 2, 3, 0}, false},
		{[]int64{5, 6, 1, 2}, false}, {[]int64{3, 4, 3}, false}, {[]int64{1, 2, 1, 2}, false},
		{[]int64{math.MinInt64, math.MaxInt64}, true}, {[]int64{math.MaxInt64, math.MinInt64}, false},
		{[]int64{math.MinInt64, 0, math.MaxInt64}, true}, {[]int64{math.MinInt64, math.MinInt64}, false}, {[]int64{math.MaxInt64, math.MaxInt64}, false},
		{[]int64{math.MinInt64, math.MinInt64 + 1}, true}, {[]int64{math.MaxInt64 - 1, math.MaxInt64}, true}, {[]int64{-2, math.MaxInt64}, true},
		{[]int64{math.MinInt64, 1}, true}, {[]int64{1, math.MinInt64}, false}, {[]int64{0, 1 << 32}, true}, {[]int64{1, 1 << 32}, true}, {[]int64{1 << 32, 0}, false},
		{[]int64{63, 64, 65, 1000}, true},
	} {
		for _, values := range [][]int64{{0}, {1, 2, 3}, {3, 2, 1}, {math.MaxInt64, math.MinInt64}} {
			list := []impl.Pair{}
			for i, key := range c.keys {
				list = append(list, impl.Pair{Key: key, Value: values[i%len(values)]})
			}
			if got := impl.InOrder(list); got != c.want {
				t.Errorf("%v: %v", list, got)
			}
		}
	}
	if !impl.InOrder([]impl.Pair{}) || !impl.InOrder(nil) {
		t.Error("nothing is not in order")
	}
}

// One fault in a long list is met wherever it stands.
func TestInOrderOfLongLists(t *testing.T) {
	long := make([]impl.Pair, 500)
	for i := range long {
		long[i] = impl.Pair{Key: int64(2*i) - 300, Value: int64(500 - i)}
	}
	if !impl.InOrder(long) {
		t.Fatal("a long list that rises is not in order")
	}
	for i := 1; i < len(long); i++ {
		key := long[i].Key
		for _, wrong := range []int64{long[i-1].Key, long[i-1].Key - 1, math.MinInt64} {
			long[i].Key = wrong
			if impl.InOrder(long) {
				t.Errorf("%d behind %d is taken for in order", wrong, long[i-1].Key)
			}
		}
		long[i].Key = key - 1
		if !impl.InOrder(long) {
			t.Errorf("%d behind %d is not taken for in order", key-1, long[i-1].Key)
		}
		long[i].Key = key
	}
}

func checkNoView(t *testing.T, p impl.Plan, a impl.Arena, why string) {
	t.Helper()
	if got := impl.NodesNow(p, a); len(got) != 0 {
		t.Errorf("%s: NodesNow are %v", why, got)
	}
	if got := impl.PairsNow(p, a); len(got) != 0 {
		t.Errorf("%s: PairsNow are %v", why, got)
	}
	for _, stamp := range []int64{math.MinInt64, -1, 0, 4, 9, 100, math.MaxInt64} {
		if got := impl.NodesAt(p, a, stamp); len(got) != 0 {
			t.Errorf("%s: NodesAt %d are %v", why, stamp, got)
		}
		if got := impl.PairsAt(p, a, stamp); len(got) != 0 {
			t.Errorf("%s: PairsAt %d are %v", why, stamp, got)
		}
	}
}

func TestViewsOfWrongPlans(t *testing.T) {
	for _, p := range wrongPlans() {
		for _, a := range []impl.Arena{{}, busyArena(), viewArena(), linkArena()} {
			checkNoView(t, p, a, "a wrong plan")
		}
	}
	checkNoView(t, busyPlan(), viewArena(), "another one's plan")
	checkNoView(t, impl.Plan{Procs: 2, Nodes: 4, Vers: 12, Guides: 2}, viewArena(), "a node too many")
	checkNoView(t, impl.Plan{Procs: 2, Nodes: 6, Vers: 10, Guides: 2}, viewArena(), "a version too many")
	checkNodes(t, "no node too many", impl.NodesNow(impl.Plan{Procs: 2, Nodes: 5, Vers: 11, Guides: 2}, viewArena()), 2, 3, 4)
}

func TestViewsOfWrongArenas(t *testing.T) {
	for _, each := range []planned{{busyPlan(), busyArena()}, {viewPlan(), viewArena()}} {
		eachWrongNumber(each.a, func(a impl.Arena, name string) { checkNoView(t, each.p, a, name) })
	}
	for _, camera := range []int64{math.MinInt64, -1, 7, 101, math.MaxInt64} {
		a := viewArena()
		a.Camera = camera
		checkNoView(t, viewPlan(), a, "a wrong camera")
	}
	checkNoView(t, viewPlan(), impl.Arena{}, "the zero arena")
	checkNoView(t, impl.Plan{}, impl.Arena{}, "nothing at all")
	headless := viewArena()
	headless.Nodes = nil
	checkNoView(t, viewPlan(), headless, "no nodes")
	unlinked := viewArena()
	unlinked.Vers = nil
	checkNoView(t, viewPlan(), unlinked, "no versions")
}

func TestViewArgumentsStay(t *testing.T) {
	wrong := viewArena()
	wrong.Vers[2].Next = 0
	for _, a := range []impl.Arena{viewArena(), busyArena(), linkArena(), impl.BlankArena(viewPlan()), plainArena(1, 2, 1).a, wrong} {
		a = roomy(a)
		whole := cloneArena(wholeArena(a))
		for _, p := range []impl.Plan{viewPlan(), busyPlan(), linkPlan(), {Procs: 1, Nodes: 3, Vers: 3, Guides: 1}, {}} {
			impl.NodesNow(p, a)
			impl.PairsNow(p, a)
			for _, stamp := range []int64{-1, 0, 4, 7, 100, math.MaxInt64} {
				impl.NodesAt(p, a, stamp)
				impl.PairsAt(p, a, stamp)
			}
		}
		if !reflect.DeepEqual(cloneArena(wholeArena(a)), whole) {
			t.Errorf("%+v was written into", a)
		}
	}
	for _, list := range [][]impl.Pair{{{Key: 3, Value: 1}, {Key: 1, Value: 2}, {Key: 2, Value: 3}}, {{Key: 1}, {Key: 2}, {Key: 3}}, {{Key: 4}, {Key: 4}, {Key: 4}}} {
		was := slices.Clone(list)
		impl.InOrder(list[:2])
		impl.InOrder(list)
		if !slices.Equal(list, was) {
			t.Errorf("%v was written into: %v", was, list)
		}
	}
}

func TestViewsShareNothing(t *testing.T) {
	p, a := viewPlan(), roomy(viewArena())
	whole := cloneArena(wholeArena(a))
	var nodes [][]int64
	var pairs [][]impl.Pair
	for range 2 {
		nodes = append(nodes, impl.NodesNow(p, a), impl.NodesNow(impl.Plan{}, a))
		pairs = append(pairs, impl.PairsNow(p, a), impl.PairsNow(impl.Plan{}, a))
		for stamp := int64(-1); stamp <= 10; stamp++ {
			nodes = append(nodes, impl.NodesAt(p, a, stamp))
			pairs = append(pairs, impl.PairsAt(p, a, stamp))
		}
	}
	checkApart(t, nodes, 55)
	checkApart(t, pairs, impl.Pair{Key: 55, Value: 55})
	if !reflect.DeepEqual(cloneArena(wholeArena(a)), whole) {
		t.Error("what is written into an answer is in the arena")
	}
	checkNodes(t, "behind what was written", impl.NodesNow(p, a), 2, 3, 4)
	checkPairs(t, "behind what was written", a, impl.PairsAt(p, a, 4), 1, 2, 4)
	kept, now := impl.PairsAt(p, a, 3), impl.NodesNow(p, a)
	scribble(wholeArena(a))
	if !slices.Equal(kept, []impl.Pair{{Key: 5, Value: 50}, {Key: 9, Value: 90}}) || !slices.Equal(now, []int64{2, 3, 4}) {
		t.Error("what is written into the arena is in an answer:", kept, now)
	}
}
