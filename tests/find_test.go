package tests

import (
	"cmp"
	"reflect"
	"slices"
	"testing"

	"loop.example/g00715/impl"
)

func findPlan() impl.Plan { return impl.Plan{Procs: 3, Nodes: 8, Vers: 20, Guides: 4} }

// findArena has the keys 10, 20, 30, 40 and 50 behind the head, of which 10, 30 and 50 are gone; the node 6, of the key 60, is
// gone as well, and is not linked any more. The nodes 1 to 5 have the versions 7 to 11 now, and had 1 to 5 ahead of them.
func findArena() impl.Arena {
	return impl.Arena{
		Camera: 9,
		Slots:  []int64{-1, 4, 2},
		Guides: []int64{2, 3, 5, 6},
		Nodes: []impl.Node{{Key: -1, Head: 0}, {Key: 10, Value: 100, Head: 7}, {Key: 20, Value: 200, Head: 8}, {Key: 30, Value: 300, Head: 9},
			{Key: 40, Value: 400, Head: 10}, {Key: 50, Value: 500, Head: 11}, {Key: 60, Value: 600, Head: 6}},
		Vers: []impl.Ver{
			{Next: 1, Stamp: 1, Prev: -1},
			{Next: 3, Prev: -1},
			{Next: 3, Stamp: 1, Prev: -1},
			{Next: 5, Stamp: 1, Prev: -1},
			{Next: 5, Stamp: 1, Prev: -1},
			{Next: 6, Stamp: 1, Prev: -1},
			{Next: -1, Gone: true, Stamp: 6, Prev: -1, Kind: impl.VrDel},
			{Next: 2, Gone: true, Stamp: 7, Prev: 1, Kind: impl.VrDel},
			{Next: 3, Stamp: -1, Prev: 2, Kind: impl.VrPut},
			{Next: 4, Gone: true, Stamp: 8, Prev: 3, Kind: impl.VrDel},
			{Next: 5, Stamp: 9, Prev: 4, Kind: impl.VrNone},
			{Next: -1, Gone: true, Stamp: 9, Prev: 5, Kind: impl.VrDel},
		},
	}
}

// findHand has met the link of the node 3, which is gone, behind the node 2. No two fields that may be mixed up are alike.
func findHand(at int64) impl.Hand {
	return impl.Hand{At: at, Then: impl.ThWalk, Code: impl.OpPut, Key: 45, Value: 46, Begin: 31, Reply: 5, Out: 32, Sum: 33, Held: 4,
		X: 5, Ver: 5, Cam: 6, CamAt: 77, Pred: 2, PredVer: 8, Curr: 3, CurrVer: 9, New: 1, Least: 3, Index: 14, Round: 15}
}

// slowStart wants a right plan and arena; the key may be -1.
func slowStart(p impl.Plan, a impl.Arena, key int64) int64 {
	if key < 0 || slowPoint(p.Guides, key) == 0 {
		return 0
	}
	n := a.Guides[slowPoint(p.Guides, key)-1]
	if a.Nodes[n].Key >= key {
		return 0
	}
	return n
}

// slowFind wants what is fit. It follows the document's table word by word, in its own numbers.
func slowFind(list planned, h impl.Hand) (impl.Done, bool) {
	done := impl.Done{Arena: cloneArena(list.a), Hand: h}
	switch h.At {
	case 1:
		if h.Round < 20000 {
			done.Hand.Round = h.Round + 1
		}
		done.Hand.X = slowStart(list.p, list.a, h.Key)
		done.Hand.Then = 1
		done.Hand.At = 2
	case 6:
		a, made := slowSwapped(list, swap{h.Pred, h.PredVer, list.a.Vers[h.CurrVer].Next, false, 0})
		done.Arena = a
		switch made {
		case -2:
			done.Hand = replied(h, 5, 0, 0)
		case -1:
			done.Hand.At = 1
		default:
			done.Hand.Ver = made
			done.Hand.Then = 3
			done.Hand.At = 3
		}
	default:
		return impl.Done{}, false
	}
	return done, true
}

// checkFindStep holds one step of what is fit against the slow one.
func checkFindStep(t *testing.T, why string, list planned, me int64, h impl.Hand, clock int64) impl.Done {
	t.Helper()
	want, wantIs := slowFind(list, h)
	got, is := impl.FindStep(list.p, list.a, me, h, clock)
	if is != wantIs || !sameDone(got, want) {
		t.Fatalf("%s: %+v\n%+v\n%+v: %v %+v\nnot %v %+v", why, list.p, list.a, h, is, got, wantIs, want)
	}
	return got
}

// findArenas are right ones, some with room, some with none.
func findArenas() []planned {
	return append(swapArenas(), planned{findPlan(), findArena()}, withRoom(planned{findPlan(), findArena()}, 0))
}

// checkOnlyUnlinks asks for promise 9 of one step of this chapter, in other words than the slow one does.
func checkOnlyUnlinks(t *testing.T, list planned, h impl.Hand, clock int64) bool {
	t.Helper()
	was := cloneArena(list.a)
	d, is := impl.FindStep(list.p, list.a, 0, h, clock)
	if !is || d.Tick || d.Deed != (impl.Deed{}) || !impl.Fit(list.p, d.Arena, 0, d.Hand, clock) {
		t.Fatalf("%+v\n%+v: %v %+v", was, h, is, d)
	}
	vers := len(was.Vers)
	if len(d.Arena.Vers) == vers {
		if !sameArena(d.Arena, was) {
			t.Fatalf("%+v\n%+v: it is changed: %+v", was, h, d.Arena)
		}
		return false
	}
	if h.At != impl.AtUnlink || len(d.Arena.Vers) != vers+1 || d.Arena.Nodes[h.Pred].Head != int64(vers) {
		t.Fatalf("%+v\n%+v: %+v", was, h, d.Arena)
	}
	if past := (impl.Ver{Next: was.Vers[h.CurrVer].Next, Stamp: -1, Prev: h.PredVer}); d.Arena.Vers[vers] != past || was.Nodes[h.Pred].Head != h.PredVer {
		t.Fatalf("%+v\n%+v: %+v is made", was, h, d.Arena.Vers[vers])
	}
	d.Arena.Vers, d.Arena.Nodes[h.Pred].Head = d.Arena.Vers[:vers], h.PredVer
	if !sameArena(d.Arena, was) {
		t.Fatalf("%+v\n%+v: more is changed: %+v", was, h, d.Arena)
	}
	return true
}

// Promise 9, step by step, whatever the arena and the hand are.
func TestAFindStepChangesNothingButALink(t *testing.T) {
	d := &dice{state: 9}
	made, missed := 0, 0
	count := func(is bool) {
		if is {
			made++
		} else {
			missed++
		}
	}
	some := findArenas()
	for i := range 4000 {
		list := withRoom(thrownArena(d), d.throw(4))
		if i < 20*len(some) {
			list = some[i%len(some)]
		}
		for range 5 {
			h := fitHand(d, list)
			h.At = impl.AtGuide
			if checkOnlyUnlinks(t, list, h, d.throw(20001)) {
				t.Fatalf("%+v: a guide makes a version", h)
			}
			h.At = impl.AtUnlink
			count(checkOnlyUnlinks(t, list, h, d.throw(20001)))
			h.PredVer = list.a.Nodes[h.Pred].Head
			count(checkOnlyUnlinks(t, list, h, d.throw(20001)))
		}
	}
	if made < 10000 || missed < 10000 {
		t.Errorf("only %d were unlinked, only %d were not", made, missed)
	}
}

func TestFindStepsAsTheTableTells(t *testing.T) {
	d := &dice{state: 99}
	some := findArenas()
	for i := range 4000 {
		list := withRoom(thrownArena(d), d.throw(4))
		if i < 20*len(some) {
			list = some[i%len(some)]
		}
		for range 10 {
			h := fitHand(d, list)
			h.At = []int64{d.throw(24), impl.AtGuide, impl.AtUnlink, impl.AtUnlink}[d.throw(4)]
			if d.throw(2) == 0 {
				h.PredVer = list.a.Nodes[h.Pred].Head
			}
			if d.throw(8) == 0 {
				h.Round = impl.MaxClock - d.throw(3)
			}
			checkFindStep(t, "drawn", list, d.throw(list.p.Procs), h, d.throw(20001))
		}
	}
}

// listed is a list as the processes leave it: its keys rise, some are gone, and some of these are unlinked already;
// each link has some versions, and the newest one of it has a stamp or none. Room is how many versions can still be made.
func listed(d *dice, room int64) planned {
	nodes, guides := 1+d.throw(10), 1+d.throw(8)
	p := impl.Plan{Procs: 3, Nodes: nodes, Guides: guides}
	a := impl.BlankArena(impl.Plan{Procs: 3, Nodes: nodes, Vers: 1, Guides: guides})
	a.Camera, a.Vers = 5+d.throw(5), nil
	keys := map[int64]bool{}
	for int64(len(a.Nodes)) < nodes {
		if key := d.throw(64); !keys[key] {
			keys[key] = true
			a.Nodes = append(a.Nodes, impl.Node{Key: key, Value: d.throw(10000)})
		}
	}
	order := []int64{}
	for n := int64(1); n < nodes; n++ {
		order = append(order, n)
	}
	slices.SortFunc(order, func(n int64, m int64) int { return cmp.Compare(a.Nodes[n].Key, a.Nodes[m].Key) })
	next := int64(-1)
	for _, n := range slices.Backward(append([]int64{0}, order...)) {
		gone := n != 0 && d.throw(3) == 0
		linkOf(d, &a, n, next, gone)
		if !gone || d.throw(3) != 0 {
			next = n
		}
	}
	for i := range a.Guides {
		a.Guides[i] = d.throw(nodes)
	}
	p.Vers = int64(len(a.Vers))
	return withRoom(planned{p, a}, room)
}

// linkOf gives the node n some older versions, and one that tells how it is now.
func linkOf(d *dice, a *impl.Arena, n int64, next int64, gone bool) {
	prev := int64(-1)
	for stamp := range d.throw(3) {
		a.Vers = append(a.Vers, impl.Ver{Next: nextAbove(d, *a, n), Stamp: stamp, Prev: prev, Kind: d.throw(2)})
		prev = int64(len(a.Vers)) - 1
	}
	now := impl.Ver{Next: next, Gone: gone, Stamp: 3 + d.throw(a.Camera-2), Prev: prev, Kind: d.throw(2)}
	if gone {
		now.Kind = impl.VrDel
	}
	if d.throw(3) == 0 {
		now.Stamp = -1
	}
	a.Nodes[n].Head = int64(len(a.Vers))
	a.Vers = append(a.Vers, now)
}

// looks is a hand that begins to look for a key, as it is called.
func looks(t *testing.T, p impl.Plan, code int64, key int64) impl.Hand {
	t.Helper()
	h, told := impl.Called(p, impl.NewHand(), code, key, 0)
	if told != impl.CdOk || h.At != impl.AtGuide {
		t.Fatal(told, h)
	}
	return h
}

// wentOneStep does the step of one of the two chapters, and holds the list against what it was.
func wentOneStep(t *testing.T, list planned, me int64, h impl.Hand, clock int64) (impl.Done, bool) {
	t.Helper()
	d, is := impl.FindStep(list.p, list.a, me, h, clock)
	nodes := impl.NodesNow(list.p, list.a)
	if !is {
		d, is = impl.SealStep(list.p, list.a, me, h, clock)
	} else if made := len(d.Arena.Vers) > len(list.a.Vers); made {
		// Just the one that is gone is passed over now.
		i := slices.Index(nodes, h.Curr)
		if i == -1 || !list.a.Vers[list.a.Nodes[h.Curr].Head].Gone {
			t.Fatalf("%+v\n%+v: who is there was unlinked", list.a, h)
		}
		nodes = slices.Delete(nodes, i, i+1)
	}
	if !is {
		return d, false
	}
	if got := impl.NodesNow(list.p, d.Arena); !slices.Equal(got, nodes) {
		t.Fatalf("%+v\n%+v: the nodes are %v, not %v", list.a, h, got, nodes)
	}
	return d, true
}

// pairsBefore is the list as it was at each stamp that is past, and as it is now.
func pairsBefore(list planned) [][]impl.Pair {
	all := [][]impl.Pair{}
	for stamp := range list.a.Camera {
		all = append(all, impl.PairsAt(list.p, list.a, stamp))
	}
	return append(all, impl.PairsNow(list.p, list.a))
}

func samePairs(some [][]impl.Pair, others [][]impl.Pair) bool {
	return slices.EqualFunc(some, others, slices.Equal)
}

// checkFound asks where a hand that looked for the key stands, or what it replies.
func checkFound(t *testing.T, list planned, code int64, key int64, h impl.Hand) {
	t.Helper()
	pairs := impl.PairsNow(list.p, list.a)
	i := slices.IndexFunc(pairs, func(pair impl.Pair) bool { return pair.Key == key })
	want := impl.Hand{Key: -1, Held: -1, Curr: -1, New: -1, Reply: impl.RpNot}
	switch {
	case code == impl.OpDel && i != -1:
		if h.At != impl.AtMark || list.a.Nodes[h.Curr].Key != key {
			t.Fatalf("%+v\n%+v: it is not at %d", list.a, h, key)
		}
		return
	case code == impl.OpPut && i == -1:
		if h.At != impl.AtMake || list.a.Nodes[h.Pred].Key >= key || h.Curr != -1 && list.a.Nodes[h.Curr].Key <= key {
			t.Fatalf("%+v\n%+v: it is not where %d would be", list.a, h, key)
		}
		return
	case i != -1:
		want.Reply, want.Out = impl.RpOld, pairs[i].Value
	}
	if h != want {
		t.Fatalf("%+v: %d of %d: %+v, not %+v", list.a, code, key, h, want)
	}
}

// Promise 9, over whole walks: whatever is gone in the list, it is the same list ahead of each step and behind it, and the key is found.
func TestWhoLooksForAKeyChangesTheListInNoWay(t *testing.T) {
	d := &dice{state: 999}
	unlinked := 0
	for range 1500 {
		list := listed(d, 12)
		was, vers := pairsBefore(list), len(list.a.Vers)
		if !impl.ArenaOk(list.p, list.a) || !keysRise(was[len(was)-1]) {
			t.Fatalf("%+v %+v", list.p, list.a)
		}
		code, key := 1+d.throw(3), d.throw(64)
		h := looks(t, list.p, code, key)
		clock := int64(0)
		for {
			done, is := wentOneStep(t, list, 1, h, clock)
			if !is {
				break
			}
			list.a, h = done.Arena, done.Hand
			if got := pairsBefore(list); !samePairs(got, was) {
				t.Fatalf("%+v\n%+v: %v, not %v", list.a, h, got, was)
			}
			if clock++; clock > 200 {
				t.Fatalf("%+v\n%+v: it does not come to an end", list.a, h)
			}
		}
		checkFound(t, list, code, key, h)
		unlinked += len(list.a.Vers) - vers
	}
	if unlinked < 500 {
		t.Errorf("only %d were unlinked", unlinked)
	}
}

// Three that look at once, in thrown turns: one unlinks what another one was about to, and that one begins anew.
func TestManyThatLookChangeTheListInNoWay(t *testing.T) {
	d := &dice{state: 9999}
	unlinked, anew := 0, 0
	for range 800 {
		list := listed(d, 12)
		was, vers := pairsBefore(list), len(list.a.Vers)
		var hands [3]impl.Hand
		var codes, keys [3]int64
		for i := range hands {
			codes[i], keys[i] = 1+d.throw(3), 32+d.throw(32)
			hands[i] = looks(t, list.p, codes[i], keys[i])
		}
		going := []int64{0, 1, 2}
		for clock := int64(0); len(going) > 0; clock++ {
			who := going[d.throw(int64(len(going)))]
			done, is := wentOneStep(t, list, who, hands[who], clock)
			if !is {
				checkFound(t, list, codes[who], keys[who], hands[who])
				going = slices.DeleteFunc(going, func(i int64) bool { return i == who })
				continue
			}
			list.a, hands[who] = done.Arena, done.Hand
			if done.Hand.At == impl.AtGuide {
				anew++
			}
			if got := pairsBefore(list); !samePairs(got, was) {
				t.Fatalf("%+v\n%+v: %v, not %v", list.a, hands[who], got, was)
			}
			if clock > 600 {
				t.Fatalf("%+v\n%+v: it does not come to an end", list.a, hands)
			}
		}
		unlinked += len(list.a.Vers) - vers
	}
	if unlinked < 500 || anew < 20 {
		t.Errorf("only %d were unlinked, only %d began anew", unlinked, anew)
	}
}

// Who comes from the head, past all keys, leaves nobody in the list who is gone.
func TestWhatIsGoneIsUnlinked(t *testing.T) {
	d := &dice{state: 90}
	for range 500 {
		list := listed(d, 12)
		for i := range list.a.Guides {
			list.a.Guides[i] = 0
		}
		for n := range list.a.Nodes {
			list.a.Nodes[n].Key = min(list.a.Nodes[n].Key, 62)
		}
		h := looks(t, list.p, impl.OpGet, 63)
		for clock := int64(0); ; clock++ {
			done, is := wentOneStep(t, list, 0, h, clock)
			if !is {
				break
			}
			list.a, h = done.Arena, done.Hand
		}
		nodes := impl.NodesNow(list.p, list.a)
		gone := func(n int64) bool { return list.a.Vers[list.a.Nodes[n].Head].Gone }
		if h.Reply != impl.RpNot || slices.ContainsFunc(nodes, gone) {
			t.Fatalf("%+v\n%+v: %v", list.a, h, nodes)
		}
	}
}

// Without room nothing is unlinked: who comes to it replies so, and the arena stays as it is but for the stamps.
func TestWhoLooksWithoutRoom(t *testing.T) {
	d := &dice{state: 900}
	full := 0
	for range 500 {
		list := listed(d, 0)
		vers, was := len(list.a.Vers), pairsBefore(list)
		h := looks(t, list.p, impl.OpGet, d.throw(64))
		unlinks := false
		for clock := int64(0); ; clock++ {
			done, is := wentOneStep(t, list, 0, h, clock)
			if !is {
				break
			}
			unlinks = h.At == impl.AtUnlink
			list.a, h = done.Arena, done.Hand
		}
		if want := (impl.Hand{Key: -1, Held: -1, Curr: -1, New: -1, Reply: impl.RpFull}); unlinks != (h == want) || h.At != impl.AtRest {
			t.Fatalf("%+v\n%+v", list.a, h)
		}
		if len(list.a.Vers) != vers || !samePairs(pairsBefore(list), was) {
			t.Fatalf("%+v: not as it was", list.a)
		}
		if unlinks {
			full++
		}
	}
	if full < 50 {
		t.Errorf("only %d came to it", full)
	}
}

// checkGuided asks for X and Round, and for all else as it was, of the hand and of the arena.
func checkGuided(t *testing.T, why string, list planned, h impl.Hand, x int64, round int64) {
	t.Helper()
	want := changed(h, func(h *impl.Hand) { h.At, h.Then, h.X, h.Round = impl.AtHead, impl.ThStart, x, round })
	d, is := impl.FindStep(list.p, list.a, 2, h, 500)
	if !is || !sameDone(d, impl.Done{Arena: list.a, Hand: want}) {
		t.Errorf("%s: %v\n%+v, not\n%+v", why, is, d, want)
	}
}

func TestAtGuideRounds(t *testing.T) {
	list := planned{findPlan(), findArena()}
	for round, want := range map[int64]int64{0: 1, 1: 2, 15: 16, 100: 101, 9999: 10000, 19998: 19999, 19999: 20000, 20000: 20000} {
		checkGuided(t, "round", list, changed(findHand(impl.AtGuide), func(h *impl.Hand) { h.Round = round }), 3, want)
		noGuide := changed(findHand(impl.AtGuide), func(h *impl.Hand) { h.Round, h.Key = round, 5 })
		checkGuided(t, "round, and no guide", list, noGuide, 0, want)
	}
}

// With 4 guides each is asked for 16 keys, the first one from 16 on; below that, none is.
func TestAtGuideX(t *testing.T) {
	list := planned{findPlan(), findArena()}
	for _, c := range []struct {
		why    string
		key    int64
		guides [4]int64
		x      int64
	}{
		{"no key", -1, [4]int64{2, 3, 5, 6}, 0},
		{"the least key", 0, [4]int64{1, 1, 1, 1}, 0},
		{"a key that asks no guide", 5, [4]int64{2, 3, 5, 6}, 0},
		{"a key above the guides' nodes that asks no guide", 11, [4]int64{1, 1, 1, 1}, 0},
		{"the last key that asks no guide", 15, [4]int64{1, 1, 1, 1}, 0},
		{"the first key that asks a guide", 16, [4]int64{1, 2, 3, 4}, 1},
		{"the last key that asks the first guide", 31, [4]int64{2, 1, 1, 1}, 2},
		{"the first key that asks the second guide", 32, [4]int64{1, 2, 1, 1}, 2},
		{"the last key that asks the second guide", 47, [4]int64{1, 4, 1, 1}, 4},
		{"the first key that asks the third guide", 48, [4]int64{1, 1, 4, 1}, 4},
		{"the greatest key", 63, [4]int64{1, 1, 6, 1}, 6},
		{"a guide at the head", 45, [4]int64{1, 0, 1, 1}, 0},
		{"the node has the very key", 20, [4]int64{2, 1, 1, 1}, 0},
		{"the node's key is one less", 21, [4]int64{2, 1, 1, 1}, 2},
		{"the node's key is one more", 19, [4]int64{2, 1, 1, 1}, 0},
		{"the node's key is much more", 16, [4]int64{6, 1, 1, 1}, 0},
		{"gone, the very key", 30, [4]int64{3, 1, 1, 1}, 0},
		{"gone, one less", 31, [4]int64{3, 1, 1, 1}, 3},
		{"gone, one more", 29, [4]int64{3, 1, 1, 1}, 0},
		{"gone, much less", 45, [4]int64{2, 1, 4, 4}, 1},
		{"gone and unlinked", 61, [4]int64{2, 1, 6, 4}, 6},
		{"gone and unlinked, the very key", 60, [4]int64{2, 1, 6, 4}, 0},
	} {
		list.a.Guides = c.guides[:]
		for at, x := range []int64{0, 3, 6} {
			h := changed(findHand(impl.AtGuide), func(h *impl.Hand) { h.Key, h.X, h.Then = c.key, x, int64(at)*3 })
			checkGuided(t, c.why, list, h, c.x, 16)
		}
		want := c.x
		if c.key == -1 {
			want = -1
		}
		if got := impl.StartFor(list.p, list.a, c.key); got != want {
			t.Errorf("%s: it starts at %d, not at %d", c.why, got, want)
		}
	}
}

// Each code asks alike, and what else the hand holds counts for nothing.
func TestAtGuideOfAnyHand(t *testing.T) {
	list := planned{findPlan(), findArena()}
	for code := int64(impl.OpNone); code <= impl.OpCut; code++ {
		for then := int64(impl.ThNone); then <= impl.ThTrim; then++ {
			h := changed(findHand(impl.AtGuide), func(h *impl.Hand) { h.Code, h.Then = code, then })
			checkGuided(t, "code", list, h, 3, 16)
			checkGuided(t, "no places", list, changed(h, func(h *impl.Hand) { h.Curr, h.New, h.Held = -1, -1, -1 }), 3, 16)
		}
	}
}

// Where the guide points to a node that is gone, X is that node; who meets its link starts at the head.
func TestAGuideThatIsGone(t *testing.T) {
	list := planned{findPlan(), findArena()}
	for key, x := range map[int64]int64{45: 3, 61: 5} {
		h := looks(t, list.p, impl.OpGet, key)
		checkGuided(t, "gone", list, h, x, 1)
		d := checkFindStep(t, "gone", list, 0, h, 0)
		d, _ = impl.SealStep(list.p, d.Arena, 0, d.Hand, 1)
		d, is := impl.SealStep(list.p, d.Arena, 0, d.Hand, 2)
		if !is || d.Hand.X != 0 || d.Hand.At != impl.AtHead || d.Hand.Then != impl.ThStart || d.Hand.Round != 1 {
			t.Fatalf("%d: %v %+v", key, is, d.Hand)
		}
	}
	// Also where it is gone, and has no stamp for that yet: it is given one first.
	list.a.Vers[9].Stamp = -1
	h := looks(t, list.p, impl.OpGet, 45)
	for clock, at := range []int64{impl.AtHead, impl.AtStamp, impl.AtCam, impl.AtSeal, impl.AtHead} {
		d, is := wentOneStep(t, list, 0, h, int64(clock))
		if list.a, h = d.Arena, d.Hand; !is || h.At != at {
			t.Fatalf("at %d: %v %+v", clock, is, h)
		}
	}
	if h.X != 0 || h.Then != impl.ThStart || list.a.Vers[9].Stamp != 9 {
		t.Error(h, list.a)
	}
}

func TestAtUnlink(t *testing.T) {
	past := func(next int64, prev int64) impl.Ver { return impl.Ver{Next: next, Stamp: -1, Prev: prev} }
	for _, c := range []struct {
		why  string
		room int64
		give [4]int64 // Pred, PredVer, Curr, CurrVer
		made impl.Ver // the zero one where none is
		at   int64
	}{
		{"of the head, to a node", 1, [4]int64{0, 0, 1, 7}, past(2, 0), impl.AtStamp},
		{"of another node, to a node", 1, [4]int64{2, 8, 3, 9}, past(4, 8), impl.AtStamp},
		{"of another node, to the end", 1, [4]int64{4, 10, 5, 11}, past(-1, 10), impl.AtStamp},
		{"of the head, to the end", 1, [4]int64{0, 0, 5, 11}, past(-1, 0), impl.AtStamp},
		{"much room", 300, [4]int64{2, 8, 3, 9}, past(4, 8), impl.AtStamp},
		{"by an older version", 1, [4]int64{2, 8, 3, 3}, past(5, 8), impl.AtStamp},
		{"of a node that is gone", 1, [4]int64{1, 7, 3, 9}, past(4, 7), impl.AtStamp},
		{"to Pred itself", 1, [4]int64{5, 11, 4, 10}, past(5, 11), impl.AtStamp},
		{"without Curr", 1, [4]int64{2, 8, -1, 9}, past(4, 8), impl.AtStamp},
		{"with the Curr of another one", 1, [4]int64{2, 8, 6, 9}, past(4, 8), impl.AtStamp},
		{"by the version of the link itself", 1, [4]int64{2, 8, 3, 8}, past(3, 8), impl.AtStamp},
		{"somebody was faster", 1, [4]int64{2, 2, 3, 9}, impl.Ver{}, impl.AtGuide},
		{"somebody was faster, at the head", 1, [4]int64{0, 1, 1, 7}, impl.Ver{}, impl.AtGuide},
		{"the Head of Curr", 1, [4]int64{2, 9, 3, 9}, impl.Ver{}, impl.AtGuide},
		{"the Head of another one", 300, [4]int64{2, 10, 3, 9}, impl.Ver{}, impl.AtGuide},
		{"no room", 0, [4]int64{2, 8, 3, 9}, impl.Ver{}, impl.AtRest},
		{"no room, of the head", 0, [4]int64{0, 0, 1, 7}, impl.Ver{}, impl.AtRest},
		{"no room, and somebody was faster", 0, [4]int64{2, 2, 3, 9}, impl.Ver{}, impl.AtRest},
	} {
		list := withRoom(planned{findPlan(), findArena()}, c.room)
		for _, clock := range []int64{0, 500, 20000} {
			h := changed(findHand(impl.AtUnlink), func(h *impl.Hand) { h.Pred, h.PredVer, h.Curr, h.CurrVer = c.give[0], c.give[1], c.give[2], c.give[3] })
			want := impl.Done{Arena: findArena(), Hand: changed(h, func(h *impl.Hand) { h.At = c.at })}
			if c.at == impl.AtStamp {
				want.Hand.Ver, want.Hand.Then = 12, impl.ThUnlinked
				want.Arena.Vers = append(want.Arena.Vers, c.made)
				want.Arena.Nodes[h.Pred].Head = 12
			}
			if c.at == impl.AtRest {
				want.Hand = impl.Hand{Key: -1, Held: 4, Curr: -1, New: -1, Reply: impl.RpFull}
			}
			if d, is := impl.FindStep(list.p, list.a, 2, h, clock); !is || !sameDone(d, want) {
				t.Errorf("%s: %v\n%+v, not\n%+v", c.why, is, d, want)
			}
		}
	}
}

// Each link of small lists, the head's first, by each one behind it that may be gone.
func TestAtUnlinkOfEachLink(t *testing.T) {
	for many := int64(1); many <= 5; many++ {
		nexts := []int64{}
		for n := int64(1); n <= many; n++ {
			nexts = append(nexts, n)
		}
		for curr := int64(1); curr <= many; curr++ {
			list := withRoom(goneIn(plainArena(append(nexts, -1)...), curr), 1)
			was := impl.PairsNow(list.p, list.a)
			h := changed(impl.NewHand(), func(h *impl.Hand) {
				h.At, h.Then, h.Code, h.Key, h.X = impl.AtUnlink, impl.ThWalk, impl.OpGet, 63, curr
				h.Pred, h.PredVer, h.Curr, h.CurrVer = curr-1, curr-1, curr, curr
			})
			next := curr + 1
			if curr == many {
				next = -1
			}
			d, is := impl.FindStep(list.p, list.a, 0, h, 9)
			nodes := impl.NodesNow(list.p, d.Arena)
			if !is || d.Arena.Vers[many+1].Next != next || slices.Contains(nodes, curr) || int64(len(nodes)) != many-1 || d.Hand.X != curr {
				t.Fatalf("%d of %d: %v %+v", curr, many, is, d)
			}
			if got := impl.PairsNow(list.p, d.Arena); !slices.Equal(got, was) {
				t.Errorf("%d of %d: %v, not %v", curr, many, got, was)
			}
			// From there it goes on to what is next, behind the same Pred.
			for range 4 {
				d, is = impl.SealStep(list.p, d.Arena, 0, d.Hand, 9)
				if !is || d.Deed != (impl.Deed{}) || d.Hand.At == impl.AtHead || d.Hand.At == impl.AtRest {
					break
				}
			}
			if at := d.Hand; next != -1 && (at.X != next || at.Curr != next || at.Pred != curr-1 || at.PredVer != many+1) || next == -1 && at.Reply != impl.RpNot {
				t.Errorf("%d of %d: %+v", curr, many, d)
			}
		}
	}
}

func TestFindStepIsNotOfOtherStates(t *testing.T) {
	for _, list := range []planned{{findPlan(), findArena()}, withRoom(planned{findPlan(), findArena()}, 0)} {
		for at := int64(impl.AtRest); at <= impl.AtSnip; at++ {
			for then := int64(impl.ThNone); then <= impl.ThTrim; then++ {
				for _, pred := range []int64{8, 2} {
					h := changed(findHand(at), func(h *impl.Hand) { h.Then, h.PredVer = then, pred })
					d, is := impl.FindStep(list.p, list.a, 0, h, 9)
					if !impl.Fit(list.p, list.a, 0, h, 9) || is != (at == 1 || at == 6) || !is && !reflect.DeepEqual(d, impl.Done{}) {
						t.Errorf("At %d, then %d: %v %+v", at, then, is, d)
					}
					if is && (d.Tick || d.Deed != (impl.Deed{})) {
						t.Errorf("At %d: %+v is told, %v", at, d.Deed, d.Tick)
					}
				}
			}
		}
	}
}

// unfit is one way in which a step is not fit.
type unfit struct {
	why   string
	list  planned
	me    int64
	h     impl.Hand
	clock int64
}

// eachUnfit gives each way in which this step is not fit, which is fit with the process 0 and the clock 9 as it is.
func eachUnfit(list planned, h impl.Hand, check func(u unfit)) {
	for _, me := range append(farOut(), list.p.Procs, list.p.Procs+1, 8) {
		check(unfit{"process", list, me, h, 9})
	}
	for _, clock := range append(farOut(), 20001, 20002) {
		if clock < 0 || clock > 20000 {
			check(unfit{"clock", list, 0, h, clock})
		}
	}
	for _, p := range wrongPlans() {
		check(unfit{"plan", planned{p, list.a}, 0, h, 9})
		check(unfit{"plan, and the rest of nothing", planned{p, impl.Arena{}}, 0, impl.Hand{At: h.At}, 9})
	}
	for field, most := range [4]int64{list.p.Procs + 1, int64(len(list.a.Nodes)) - 1, int64(len(list.a.Vers)) - 1, list.p.Guides + 1} {
		check(unfit{"another plan", planned{withField(list.p, field, most), list.a}, 0, h, 9})
	}
	eachWrongNumber(list.a, func(wrong impl.Arena, name string) { check(unfit{name, planned{list.p, wrong}, 0, h, 9}) })
	for _, camera := range append(farOut(), 101) {
		wrong := cloneArena(list.a)
		if wrong.Camera = camera; camera < 0 || camera > 100 {
			check(unfit{"camera", planned{list.p, wrong}, 0, h, 9})
		}
	}
	check(unfit{"no arena", planned{list.p, impl.Arena{}}, 0, h, 9})
	eachUnfitHand(list, h, check)
}

// eachUnfitHand gives the hands that are not right, and those that are, but hold a node or a version that there is not.
func eachUnfitHand(list planned, h impl.Hand, check func(u unfit)) {
	nodes, vers := int64(len(list.a.Nodes)), int64(len(list.a.Vers))
	there := map[string]int64{"X": nodes, "Pred": nodes, "Curr": nodes, "New": nodes, "Ver": vers, "PredVer": vers, "CurrVer": vers}
	for _, place := range handPlaces(list.p) {
		for _, n := range append(farOut(), place.least-1, place.most+1) {
			wrong := h
			if *place.field(&wrong) = n; n < place.least || n > place.most {
				check(unfit{place.name, list, 0, wrong, 9})
			}
		}
		if first, named := there[place.name]; named {
			for n := first; n <= place.most; n++ {
				wrong := h
				*place.field(&wrong) = n
				check(unfit{place.name + " that is not there", list, 0, wrong, 9})
			}
		}
	}
}

func TestFindStepOfWhatIsNotFit(t *testing.T) {
	for _, list := range []planned{{findPlan(), findArena()}, {sealPlan(), sealArena()}} {
		for _, at := range []int64{impl.AtGuide, impl.AtUnlink} {
			h := changed(findHand(at), func(h *impl.Hand) { h.X, h.Pred, h.Curr, h.PredVer = 1, 2, 3, list.a.Nodes[2].Head })
			if _, is := impl.FindStep(list.p, list.a, 0, h, 9); !is {
				t.Fatal("what is fit is refused")
			}
			eachUnfit(list, h, func(u unfit) {
				if d, is := impl.FindStep(u.list.p, u.list.a, u.me, u.h, u.clock); is || !reflect.DeepEqual(d, impl.Done{}) {
					t.Errorf("%s: At %d: %v %+v", u.why, at, is, d)
				}
			})
		}
	}
}

func TestFindStepOfEachProcessAndClock(t *testing.T) {
	list := planned{findPlan(), findArena()}
	for me := range int64(3) {
		for _, clock := range []int64{0, 1, 19999, 20000} {
			checkFindStep(t, "at the guide", list, me, findHand(impl.AtGuide), clock)
			checkFindStep(t, "unlinking", list, me, findHand(impl.AtUnlink), clock)
		}
	}
	blank := planned{findPlan(), impl.BlankArena(findPlan())}
	checkFindStep(t, "blank", blank, 2, changed(impl.NewHand(), func(h *impl.Hand) { h.At = impl.AtGuide }), 20000)
	checkFindStep(t, "blank", blank, 2, impl.Hand{At: impl.AtGuide}, 0)
	checkFindStep(t, "blank", blank, 0, impl.Hand{At: impl.AtUnlink}, 20000)
}

// What it starts at is the X of a step at the guide with that key, whatever else that hand holds.
func TestStartFor(t *testing.T) {
	d := &dice{state: 90000}
	check := func(list planned) {
		for key := int64(0); key <= 63; key++ {
			h := fitHand(d, list)
			h.At, h.Key = impl.AtGuide, key
			done, is := impl.FindStep(list.p, list.a, 0, h, 0)
			if got := impl.StartFor(list.p, list.a, key); !is || got != done.Hand.X || got != slowStart(list.p, list.a, key) {
				t.Fatalf("%+v\n%+v: %d: at %d, not at %d", list.p, list.a, key, got, slowStart(list.p, list.a, key))
			}
		}
		for _, key := range append(farOut(), 64, 100, 1<<32+20) {
			if got := impl.StartFor(list.p, list.a, key); got != -1 {
				t.Fatalf("%+v: %d, which is no key: %d", list.p, key, got)
			}
		}
	}
	for _, list := range findArenas() {
		check(list)
	}
	for guides := int64(1); guides <= 8; guides++ {
		list := planned{findPlan(), findArena()}
		list.p.Guides, list.a.Guides = guides, []int64{1, 2, 3, 2, 4, 5, 6, 6}[:guides]
		check(list)
	}
	for range 300 {
		check(thrownArena(d))
	}
}

func TestStartForOfWrongPlansAndArenas(t *testing.T) {
	check := func(why string, p impl.Plan, a impl.Arena) {
		t.Helper()
		for _, key := range []int64{-1, 0, 15, 16, 45, 63, 64} {
			if got := impl.StartFor(p, a, key); got != -1 {
				t.Errorf("%s: %d: %d", why, key, got)
			}
		}
	}
	p, a := findPlan(), findArena()
	for _, wrong := range wrongPlans() {
		check("plan", wrong, a)
		check("plan, and no arena", wrong, impl.Arena{})
	}
	for field, most := range [4]int64{4, 6, 11, 3} {
		check("another plan", withField(p, field, most), a)
	}
	eachWrongNumber(a, func(wrong impl.Arena, name string) { check(name, p, wrong) })
	for _, camera := range append(farOut(), 8, 101) {
		wrong := findArena()
		if wrong.Camera = camera; camera < 9 || camera > 100 {
			check("camera", p, wrong)
		}
	}
	check("no arena", p, impl.Arena{})
	check("nothing at all", impl.Plan{}, impl.Arena{})
}

// findHands are one at the guide, and one of each way in which unlinking ends but for the room.
func findHands() []impl.Hand {
	return []impl.Hand{findHand(impl.AtGuide), findHand(impl.AtUnlink), changed(findHand(impl.AtUnlink), func(h *impl.Hand) { h.PredVer = 2 }),
		changed(findHand(impl.AtGuide), func(h *impl.Hand) { h.Key = 5 }), findHand(impl.AtHead)}
}

func TestFindArgumentsStay(t *testing.T) {
	for room := range int64(2) {
		list := withRoom(planned{findPlan(), roomy(findArena())}, room)
		was := list.p
		whole := cloneArena(wholeArena(list.a))
		for _, h := range findHands() {
			kept := h
			first, is := impl.FindStep(list.p, list.a, 0, h, 9)
			want := cloneArena(first.Arena)
			impl.FindStep(impl.Plan{}, list.a, 0, h, 9)
			impl.FindStep(list.p, list.a, -1, h, 9)
			for key := int64(-1); key <= 64; key++ {
				impl.StartFor(list.p, list.a, key)
			}
			scribble(wholeArena(first.Arena))
			second, again := impl.FindStep(list.p, list.a, 0, h, 9)
			if again != is || !sameArena(second.Arena, want) || second.Hand != first.Hand || h != kept || list.p != was {
				t.Errorf("room %d: %+v: another answer", room, h)
			}
		}
		if !reflect.DeepEqual(cloneArena(wholeArena(list.a)), whole) {
			t.Errorf("%+v was written into", list.a)
		}
	}
}

// Also an arena that is answered as it is shares nothing with the one that came in.
func TestFindStepsShareNothing(t *testing.T) {
	for room := range int64(2) {
		for _, h := range findHands() {
			list := withRoom(planned{findPlan(), roomy(findArena())}, room)
			whole := cloneArena(wholeArena(list.a))
			first, _ := impl.FindStep(list.p, list.a, 0, h, 9)
			second, _ := impl.FindStep(list.p, list.a, 0, h, 9)
			want := cloneArena(second.Arena)
			checkApart(t, [][]int64{first.Arena.Slots, first.Arena.Guides}, 55)
			scribble(wholeArena(first.Arena))
			if !sameArena(second.Arena, want) || !sameArena(cloneArena(wholeArena(list.a)), whole) {
				t.Errorf("%+v: what is written into one answer is elsewhere", h)
			}
			scribble(wholeArena(list.a))
			if !sameArena(second.Arena, want) {
				t.Errorf("%+v: what is written into the argument is in the answer", h)
			}
		}
	}
}
