package tests

import (
	"cmp"
	"reflect"
	"slices"
	"testing"

	"loop.example/g00715/impl"
)

func changePlan() impl.Plan { return impl.Plan{Procs: 3, Nodes: 8, Vers: 20, Guides: 4} }

// changeArena has the keys 10, 20 and 40 behind the head, and 50, which is gone; the node 5, of the key 30, was made and is not
// linked, and was aimed at 50. No node has the number of its version, and but for 0 no key is that of a node.
func changeArena() impl.Arena {
	return impl.Arena{
		Camera: 9,
		Slots:  []int64{-1, 4, 2},
		Guides: []int64{0, 1, 2, 3},
		Nodes: []impl.Node{{Key: -1, Head: 6}, {Key: 10, Value: 100, Head: 7}, {Key: 20, Value: 200, Head: 8}, {Key: 40, Value: 400, Head: 10},
			{Key: 50, Value: 500, Head: 9}, {Key: 30, Value: 300, Head: 11}},
		Vers: []impl.Ver{
			{Next: -1, Prev: -1},
			{Next: 3, Prev: -1},
			{Next: 3, Prev: -1},
			{Next: -1, Prev: -1},
			{Next: -1, Prev: -1},
			{Next: 3, Stamp: 1, Prev: 0, Kind: impl.VrPut},
			{Next: 1, Stamp: 2, Prev: 5, Kind: impl.VrPut},
			{Next: 2, Stamp: 4, Prev: 1, Kind: impl.VrPut},
			{Next: 3, Stamp: -1, Prev: 2, Kind: impl.VrNone},
			{Next: -1, Gone: true, Stamp: 8, Prev: 4, Kind: impl.VrDel},
			{Next: 4, Stamp: 7, Prev: 3, Kind: impl.VrPut},
			{Next: 4, Prev: -1},
		},
	}
}

// changeHand stands between the node 2 and the node 3, for the key 30. No two fields that may be mixed up are alike.
func changeHand(at int64) impl.Hand {
	return impl.Hand{At: at, Then: impl.ThWalk, Code: impl.OpPut, Key: 30, Value: 33, Begin: 31, Reply: 4, Out: 32, Sum: 34, Held: 7,
		X: 1, Ver: 5, Cam: 6, CamAt: 77, Pred: 2, PredVer: 8, Curr: 3, CurrVer: 10, New: 5, Least: 4, Index: 14, Round: 15}
}

func changeAts() []int64 {
	return []int64{impl.AtMake, impl.AtAim, impl.AtLink, impl.AtPoint, impl.AtMark, impl.AtClean}
}

// withNodeRoom is the same with so many nodes more in its plan than there are, as far as a plan goes.
func withNodeRoom(list planned, room int64) planned {
	list.p.Nodes = min(int64(len(list.a.Nodes))+room, impl.MaxNodes)
	return list
}

// roomed is the same with just so much room.
func roomed(list planned, nodes int64, vers int64) planned {
	return withNodeRoom(withRoom(list, vers), nodes)
}

// changeArenas are right ones, some with room for both, some for just one of a node and a version, some for none.
func changeArenas() []planned {
	list := append(swapArenas(), planned{changePlan(), changeArena()}, planned{findPlan(), findArena()})
	for _, each := range slices.Clone(list) {
		list = append(list, withNodeRoom(each, 1), withNodeRoom(each, 0))
	}
	for room := range int64(4) {
		list = append(list, roomed(planned{changePlan(), changeArena()}, room/2, room%2))
	}
	return list
}

// slowTried is a swap as the tables of the chapters 9 and 10 tell it, in the document's own numbers.
func slowTried(list planned, h impl.Hand, s swap, x int64, then int64) impl.Done {
	a, made := slowSwapped(list, s)
	done := impl.Done{Arena: a, Hand: h}
	switch made {
	case -2:
		done.Hand = replied(h, 5, 0, 0)
	case -1:
		done.Hand.At = 1
	default:
		done.Hand.Ver = made
		done.Hand.X = x
		done.Hand.Then = then
		done.Hand.At = 3
	}
	return done
}

func slowMade(list planned, h impl.Hand, next int64) impl.Done {
	done := impl.Done{Arena: cloneArena(list.a), Hand: h}
	nodes, vers := int64(len(list.a.Nodes)), int64(len(list.a.Vers))
	if nodes == list.p.Nodes || vers == list.p.Vers {
		done.Hand = replied(h, 5, 0, 0)
		return done
	}
	key := h.Key
	if key == -1 {
		key = 0
	}
	done.Arena.Vers = append(done.Arena.Vers, impl.Ver{Next: next, Gone: false, Stamp: 0, Prev: -1, Kind: 0})
	done.Arena.Nodes = append(done.Arena.Nodes, impl.Node{Key: key, Value: h.Value, Head: vers})
	done.Hand.New = nodes
	done.Hand.At = 9
	return done
}

// slowChange wants what is fit. It follows the document's table word by word, in its own numbers.
func slowChange(list planned, h impl.Hand) (impl.Done, bool) {
	done := impl.Done{Arena: cloneArena(list.a), Hand: h}
	curr, next, fresh := h.Curr, h.Curr, h.New
	if curr == -1 {
		curr = 0
	}
	if next == 0 {
		next = -1
	}
	if fresh == 0 {
		fresh = -1
	}
	switch h.At {
	case 7:
		return slowMade(list, h, next), true
	case 8:
		if h.New != -1 {
			done.Arena.Vers[list.a.Nodes[h.New].Head].Next = next
		}
		done.Hand.At = 9
	case 9:
		return slowTried(list, h, swap{h.Pred, h.PredVer, fresh, false, 1}, h.Pred, 4), true
	case 10:
		if h.Key != -1 && h.New != -1 {
			done.Arena.Guides[slowPoint(list.p.Guides, h.Key)] = h.New
		}
		done.Hand = replied(h, 1, 0, 0)
	case 11:
		return slowTried(list, h, swap{curr, h.CurrVer, list.a.Vers[h.CurrVer].Next, true, 2}, curr, 5), true
	case 12:
		done.Arena, _ = slowSwapped(list, swap{h.Pred, h.PredVer, list.a.Vers[h.CurrVer].Next, false, 0})
		done.Hand = replied(h, 2, list.a.Nodes[curr].Value, 0)
	default:
		return impl.Done{}, false
	}
	return done, true
}

// checkChangeStep holds one step of what is fit against the slow one.
func checkChangeStep(t *testing.T, why string, list planned, me int64, h impl.Hand, clock int64) impl.Done {
	t.Helper()
	want, wantIs := slowChange(list, h)
	got, is := impl.ChangeStep(list.p, list.a, me, h, clock)
	if is != wantIs || !sameDone(got, want) {
		t.Fatalf("%s: %+v\n%+v\n%+v: %v %+v\nnot %v %+v", why, list.p, list.a, h, is, got, wantIs, want)
	}
	return got
}

// checkChanges asks for all that a step answers, as the test itself tells it.
func checkChanges(t *testing.T, why string, list planned, h impl.Hand, want impl.Done) {
	t.Helper()
	for me := range list.p.Procs {
		for _, clock := range []int64{0, 500, 20000} {
			if d, is := impl.ChangeStep(list.p, list.a, me, h, clock); !is || !sameDone(d, want) {
				t.Errorf("%s: %v\n%+v, not\n%+v", why, is, d, want)
			}
		}
	}
}

// checkOldIsKept asks for what promise 10 tells of the nodes and versions that there were, without a word of what else the step should do.
func checkOldIsKept(t *testing.T, was impl.Arena, h impl.Hand, now impl.Arena) {
	t.Helper()
	for v, old := range was.Vers {
		aimed := h.At == impl.AtAim && h.New != -1 && was.Nodes[h.New].Head == int64(v)
		if aimed {
			old.Next = now.Vers[v].Next
		}
		if now.Vers[v] != old {
			t.Fatalf("%+v\n%+v: the version %d is %+v", was, h, v, now.Vers[v])
		}
	}
	swapped := int64(-1)
	for n, old := range was.Nodes {
		if now.Nodes[n].Head != old.Head && now.Nodes[n].Head == int64(len(was.Vers)) && swapped == -1 {
			swapped, old.Head = int64(n), now.Nodes[n].Head
		}
		if now.Nodes[n] != old {
			t.Fatalf("%+v\n%+v: the node %d is %+v", was, h, n, now.Nodes[n])
		}
	}
	ends := map[int64]int64{impl.AtLink: h.Pred, impl.AtMark: max(h.Curr, 0), impl.AtClean: h.Pred}
	if of, swaps := ends[h.At]; swapped != -1 && (!swaps || swapped != of) {
		t.Fatalf("%+v\n%+v: the link of the node %d is another one", was, h, swapped)
	}
	if made := len(now.Vers) > len(was.Vers); (swapped != -1) != (made && h.At != impl.AtMake) {
		t.Fatalf("%+v\n%+v: %+v", was, h, now)
	}
}

// checkWhatIsMade asks that the table tells what is made, and tells how many nodes and versions that is.
func checkWhatIsMade(t *testing.T, was impl.Arena, h impl.Hand, now impl.Arena) (int, int) {
	t.Helper()
	nodes, vers := len(now.Nodes)-len(was.Nodes), len(now.Vers)-len(was.Vers)
	if nodes < 0 || nodes > 1 || vers < 0 || vers > 1 || nodes > vers || (nodes == 1) != (vers == 1 && h.At == impl.AtMake) {
		t.Fatalf("%+v\n%+v: %d nodes and %d versions more", was, h, nodes, vers)
	}
	if vers == 0 {
		return nodes, vers
	}
	toNone := func(n int64) int64 {
		if n == 0 {
			return -1
		}
		return n
	}
	next := was.Vers[h.CurrVer].Next
	rows := map[int64]impl.Ver{
		impl.AtMake:  {Next: toNone(h.Curr), Prev: -1},
		impl.AtLink:  {Next: toNone(h.New), Stamp: -1, Prev: h.PredVer, Kind: impl.VrPut},
		impl.AtMark:  {Next: next, Gone: true, Stamp: -1, Prev: h.CurrVer, Kind: impl.VrDel},
		impl.AtClean: {Next: next, Stamp: -1, Prev: h.PredVer},
	}
	if row, makes := rows[h.At]; !makes || now.Vers[len(was.Vers)] != row {
		t.Fatalf("%+v\n%+v: %+v is made", was, h, now.Vers[len(was.Vers)])
	}
	if node := (impl.Node{Key: max(h.Key, 0), Value: h.Value, Head: int64(len(was.Vers))}); nodes == 1 && now.Nodes[len(was.Nodes)] != node {
		t.Fatalf("%+v\n%+v: %+v is made", was, h, now.Nodes[len(was.Nodes)])
	}
	return nodes, vers
}

// checkOnlyChanges asks for promise 10 of one step of this chapter, and tells how many nodes and versions were made.
func checkOnlyChanges(t *testing.T, list planned, h impl.Hand, clock int64) (int, int) {
	t.Helper()
	was := cloneArena(list.a)
	d, is := impl.ChangeStep(list.p, list.a, 0, h, clock)
	if !is || d.Tick || d.Deed != (impl.Deed{}) || !impl.Fit(list.p, d.Arena, 0, d.Hand, clock) {
		t.Fatalf("%+v\n%+v: %v %+v", was, h, is, d)
	}
	checkOldIsKept(t, was, h, d.Arena)
	others := 0
	for i, guide := range d.Arena.Guides {
		if guide != was.Guides[i] {
			others++
		}
	}
	if others > 1 || others == 1 && h.At != impl.AtPoint {
		t.Fatalf("%+v\n%+v: the guides are %v", was, h, d.Arena.Guides)
	}
	if d.Arena.Camera != was.Camera || !slices.Equal(d.Arena.Slots, was.Slots) {
		t.Fatalf("%+v\n%+v: %+v", was, h, d.Arena)
	}
	return checkWhatIsMade(t, was, h, d.Arena)
}

// eachChangeHand gives hands of one At that fit the arena, some of which are the first at the links that they know.
func eachChangeHand(d *dice, list planned, at int64, check func(h impl.Hand)) {
	h := fitHand(d, list)
	h.At = at
	check(h)
	h.PredVer = list.a.Nodes[h.Pred].Head
	check(h)
	h.CurrVer = list.a.Nodes[max(h.Curr, 0)].Head
	check(h)
	h.Pred, h.PredVer = max(h.Curr, 0), h.CurrVer
	check(h)
}

// eachDrawnChange goes through the arenas above, and through drawn ones of more and of less room.
func eachDrawnChange(seed uint64, many int, check func(d *dice, list planned, h impl.Hand)) {
	d := &dice{state: seed}
	some := changeArenas()
	for i := range many {
		list := roomed(thrownArena(d), d.throw(3), d.throw(3))
		if i < 10*len(some) {
			list = some[i%len(some)]
		}
		for _, at := range changeAts() {
			eachChangeHand(d, list, at, func(h impl.Hand) { check(d, list, h) })
		}
	}
}

// Promise 10.
func TestAStepOfChangingTellsOfNoDeed(t *testing.T) {
	var nodes, vers, none [24]int
	eachDrawnChange(10, 2500, func(d *dice, list planned, h impl.Hand) {
		moreNodes, moreVers := checkOnlyChanges(t, list, h, d.throw(20001))
		nodes[h.At] += moreNodes
		vers[h.At] += moreVers
		if moreVers == 0 {
			none[h.At]++
		}
	})
	for _, at := range []int64{impl.AtMake, impl.AtLink, impl.AtMark, impl.AtClean} {
		if vers[at] < 2000 || none[at] < 2000 {
			t.Errorf("At %d: only %d made a version, only %d did not", at, vers[at], none[at])
		}
	}
	if nodes[impl.AtMake] < 2000 || vers[impl.AtAim]+vers[impl.AtPoint] > 0 {
		t.Error(nodes, vers)
	}
}

func TestChangeStepsAsTheTableTells(t *testing.T) {
	eachDrawnChange(100, 3000, func(d *dice, list planned, h impl.Hand) {
		checkChangeStep(t, "drawn", list, d.throw(list.p.Procs), h, d.throw(20001))
		h.At = d.throw(24)
		checkChangeStep(t, "drawn, any At", list, d.throw(list.p.Procs), h, d.throw(20001))
	})
}

func TestAtMake(t *testing.T) {
	for _, c := range []struct {
		why  string
		give [4]int64 // Key, Value, Curr, New
		node impl.Node
		next int64
	}{
		{"ahead of a node", [4]int64{30, 33, 3, -1}, impl.Node{Key: 30, Value: 33, Head: 12}, 3},
		{"ahead of the first node", [4]int64{5, 33, 1, -1}, impl.Node{Key: 5, Value: 33, Head: 12}, 1},
		{"ahead of the last node there is", [4]int64{5, 33, 5, -1}, impl.Node{Key: 5, Value: 33, Head: 12}, 5},
		{"at the end", [4]int64{60, 33, -1, -1}, impl.Node{Key: 60, Value: 33, Head: 12}, -1},
		{"ahead of the head", [4]int64{30, 33, 0, -1}, impl.Node{Key: 30, Value: 33, Head: 12}, -1},
		{"ahead of one that is gone", [4]int64{45, 33, 4, -1}, impl.Node{Key: 45, Value: 33, Head: 12}, 4},
		{"the least key and value", [4]int64{0, 0, 1, -1}, impl.Node{Key: 0, Value: 0, Head: 12}, 1},
		{"the greatest key and value", [4]int64{63, 9999, -1, -1}, impl.Node{Key: 63, Value: 9999, Head: 12}, -1},
		{"no key", [4]int64{-1, 33, 3, -1}, impl.Node{Key: 0, Value: 33, Head: 12}, 3},
		{"no key, ahead of the head", [4]int64{-1, 33, 0, -1}, impl.Node{Key: 0, Value: 33, Head: 12}, -1},
		{"a key that is there", [4]int64{20, 33, 3, -1}, impl.Node{Key: 20, Value: 33, Head: 12}, 3},
		{"a New that was made already", [4]int64{30, 33, 3, 5}, impl.Node{Key: 30, Value: 33, Head: 12}, 3},
		{"a New that is the head", [4]int64{30, 33, 3, 0}, impl.Node{Key: 30, Value: 33, Head: 12}, 3},
	} {
		for _, room := range [][2]int64{{1, 1}, {1, 300}, {50, 1}, {50, 300}} {
			for _, camera := range []int64{8, 9, 100} {
				list := roomed(planned{changePlan(), changeArena()}, room[0], room[1])
				list.a.Camera = camera
				h := changed(changeHand(impl.AtMake), func(h *impl.Hand) { h.Key, h.Value, h.Curr, h.New = c.give[0], c.give[1], c.give[2], c.give[3] })
				want := impl.Done{Arena: cloneArena(list.a), Hand: changed(h, func(h *impl.Hand) { h.New, h.At = 6, impl.AtLink })}
				want.Arena.Nodes = append(want.Arena.Nodes, c.node)
				want.Arena.Vers = append(want.Arena.Vers, impl.Ver{Next: c.next, Gone: false, Stamp: 0, Prev: -1, Kind: impl.VrNone})
				checkChanges(t, c.why, list, h, want)
			}
		}
	}
}

func TestAtMakeWithoutRoom(t *testing.T) {
	for _, room := range [][2]int64{{0, 1}, {0, 300}, {1, 0}, {50, 0}, {0, 0}} {
		for _, give := range [][3]int64{{30, 3, -1}, {-1, 0, -1}, {60, -1, 5}, {30, 3, 0}} {
			list := roomed(planned{changePlan(), changeArena()}, room[0], room[1])
			h := changed(changeHand(impl.AtMake), func(h *impl.Hand) { h.Key, h.Curr, h.New = give[0], give[1], give[2] })
			want := impl.Hand{Key: -1, Held: 7, Curr: -1, New: -1, Reply: impl.RpFull}
			checkChanges(t, "no room", list, h, impl.Done{Arena: list.a, Hand: want})
			h.Held, want.Held = -1, -1
			checkChanges(t, "no room, and no picture", list, h, impl.Done{Arena: list.a, Hand: want})
		}
	}
	// The greatest arena of all, and those with room for one more of just one of both.
	most := impl.Plan{Procs: 1, Nodes: 60, Vers: 400, Guides: 1}
	for short := range 4 {
		a := fullArena(most)
		a.Nodes, a.Vers = a.Nodes[:60-short%2], a.Vers[:400-short/2]
		for n := range a.Nodes {
			a.Nodes[n].Head = 0
		}
		h := changed(impl.NewHand(), func(h *impl.Hand) { h.At, h.Code, h.Key = impl.AtMake, impl.OpPut, 63 })
		d := checkChangeStep(t, "the greatest arena", planned{most, a}, 0, h, 20000)
		if full := d.Hand.Reply == impl.RpFull; full != (short != 3) || !full && (d.Hand.New != 59 || d.Arena.Nodes[59].Head != 399) {
			t.Errorf("%d: %+v", short, d.Hand)
		}
	}
}

// In the smallest plans there is room for nothing; in the blank arena of one of two nodes and versions, for one of each.
func TestAtMakeOfSmallPlans(t *testing.T) {
	for nodes := int64(1); nodes <= 3; nodes++ {
		for vers := int64(1); vers <= 3; vers++ {
			p := impl.Plan{Procs: 1, Nodes: nodes, Vers: vers, Guides: 1}
			list := planned{p, impl.BlankArena(p)}
			h := changed(impl.NewHand(), func(h *impl.Hand) { h.At, h.Code, h.Key, h.Value = impl.AtMake, impl.OpPut, 7, 70 })
			for n := int64(1); ; n++ {
				d := checkChangeStep(t, "small", list, 0, h, n)
				if made := d.Hand.At == impl.AtLink; made != (n < min(nodes, vers)) {
					t.Fatalf("%+v: %d: %+v", p, n, d)
				} else if !made {
					break
				}
				list.a = d.Arena
			}
		}
	}
}

func TestAtAim(t *testing.T) {
	for _, c := range []struct {
		why   string
		fresh int64
		curr  int64
		ver   int64 // whose Next it is; -1 where nothing is changed
		next  int64
	}{
		{"at another node", 5, 3, 11, 3},
		{"at the same node", 5, 4, 11, 4},
		{"at the end", 5, -1, 11, -1},
		{"at the head", 5, 0, 11, -1},
		{"at itself", 5, 5, 11, 5},
		{"no New", -1, 3, -1, 0},
		{"no New, at the head", -1, 0, -1, 0},
		{"no New, at the end", -1, -1, -1, 0},
		{"the head", 0, 3, 6, 3},
		{"the head, at itself", 0, 0, 6, -1},
		{"one that is linked, with a stamp", 1, 4, 7, 4},
		{"one that is linked, without a stamp", 2, 1, 8, 1},
		{"one that is gone", 4, 2, 9, 2},
	} {
		for _, room := range [][2]int64{{1, 1}, {0, 0}, {50, 300}} {
			list := roomed(planned{changePlan(), changeArena()}, room[0], room[1])
			h := changed(changeHand(impl.AtAim), func(h *impl.Hand) { h.New, h.Curr = c.fresh, c.curr })
			want := impl.Done{Arena: changeArena(), Hand: changed(h, func(h *impl.Hand) { h.At = impl.AtLink })}
			if c.ver != -1 {
				want.Arena.Vers[c.ver].Next = c.next
			}
			checkChanges(t, c.why, list, h, want)
		}
	}
}

// tried is one swap of a step of changing, and how it ends.
type tried struct {
	why  string
	room int64
	give [5]int64 // Pred, PredVer, Curr, CurrVer, New
	node int64    // whose link it is
	made impl.Ver // the zero one where none is
	at   int64
}

// want is what is answered where the step goes on with what it has made.
func (c tried) want(a impl.Arena, h impl.Hand, then int64) impl.Done {
	done := impl.Done{Arena: cloneArena(a), Hand: changed(h, func(h *impl.Hand) { h.At = c.at })}
	switch c.at {
	case impl.AtStamp:
		done.Arena.Vers = append(done.Arena.Vers, c.made)
		done.Arena.Nodes[c.node].Head = 12
		done.Hand.Ver, done.Hand.X, done.Hand.Then = 12, c.node, then
	case impl.AtRest:
		done.Hand = impl.Hand{Key: -1, Held: 7, Curr: -1, New: -1, Reply: impl.RpFull}
	}
	return done
}

func (c tried) hand(at int64) impl.Hand {
	return changed(changeHand(at), func(h *impl.Hand) {
		h.Pred, h.PredVer, h.Curr, h.CurrVer, h.New = c.give[0], c.give[1], c.give[2], c.give[3], c.give[4]
	})
}

func TestAtLink(t *testing.T) {
	put := func(next int64, prev int64) impl.Ver {
		return impl.Ver{Next: next, Stamp: -1, Prev: prev, Kind: impl.VrPut}
	}
	for _, c := range []tried{
		{"behind a node", 1, [5]int64{2, 8, 3, 10, 5}, 2, put(5, 8), impl.AtStamp},
		{"behind the head", 1, [5]int64{0, 6, 1, 7, 5}, 0, put(5, 6), impl.AtStamp},
		{"at the end", 1, [5]int64{3, 10, -1, 10, 5}, 3, put(5, 10), impl.AtStamp},
		{"behind one that is gone", 1, [5]int64{4, 9, -1, 10, 5}, 4, put(5, 9), impl.AtStamp},
		{"much room", 300, [5]int64{2, 8, 3, 10, 5}, 2, put(5, 8), impl.AtStamp},
		{"behind itself", 1, [5]int64{5, 11, 3, 10, 5}, 5, put(5, 11), impl.AtStamp},
		{"no New", 1, [5]int64{2, 8, 3, 10, -1}, 2, put(-1, 8), impl.AtStamp},
		{"New the head", 1, [5]int64{2, 8, 3, 10, 0}, 2, put(-1, 8), impl.AtStamp},
		{"New the head, behind it", 1, [5]int64{0, 6, 3, 10, 0}, 0, put(-1, 6), impl.AtStamp},
		{"one that is linked", 1, [5]int64{2, 8, 3, 10, 3}, 2, put(3, 8), impl.AtStamp},
		{"the first one, which is linked", 1, [5]int64{2, 8, 3, 10, 1}, 2, put(1, 8), impl.AtStamp},
		{"one that is gone", 1, [5]int64{2, 8, 3, 10, 4}, 2, put(4, 8), impl.AtStamp},
		{"somebody was faster", 1, [5]int64{2, 2, 3, 10, 5}, 0, impl.Ver{}, impl.AtGuide},
		{"somebody was faster, at the head", 1, [5]int64{0, 5, 1, 7, 5}, 0, impl.Ver{}, impl.AtGuide},
		{"somebody was faster, and no New", 1, [5]int64{2, 2, 3, 10, -1}, 0, impl.Ver{}, impl.AtGuide},
		{"the Head of Curr", 300, [5]int64{2, 10, 3, 8, 5}, 0, impl.Ver{}, impl.AtGuide},
		{"the Head of New", 1, [5]int64{2, 11, 3, 8, 5}, 0, impl.Ver{}, impl.AtGuide},
		{"no room", 0, [5]int64{2, 8, 3, 10, 5}, 0, impl.Ver{}, impl.AtRest},
		{"no room, behind the head", 0, [5]int64{0, 6, 1, 7, 5}, 0, impl.Ver{}, impl.AtRest},
		{"no room, and no New", 0, [5]int64{2, 8, 3, 10, -1}, 0, impl.Ver{}, impl.AtRest},
		{"no room, and somebody was faster", 0, [5]int64{2, 2, 3, 10, 5}, 0, impl.Ver{}, impl.AtRest},
	} {
		for nodes := range int64(2) {
			list, h := roomed(planned{changePlan(), changeArena()}, nodes, c.room), c.hand(impl.AtLink)
			checkChanges(t, c.why, list, h, c.want(list.a, h, impl.ThLinked))
		}
	}
}

func TestAtMark(t *testing.T) {
	del := func(next int64, prev int64) impl.Ver {
		return impl.Ver{Next: next, Gone: true, Stamp: -1, Prev: prev, Kind: impl.VrDel}
	}
	for _, c := range []tried{
		{"ahead of a node", 1, [5]int64{2, 8, 3, 10, -1}, 3, del(4, 10), impl.AtStamp},
		{"without a stamp", 1, [5]int64{1, 7, 2, 8, -1}, 2, del(3, 8), impl.AtStamp},
		{"at the end", 1, [5]int64{3, 10, 4, 9, -1}, 4, del(-1, 9), impl.AtStamp},
		{"much room", 300, [5]int64{2, 8, 3, 10, -1}, 3, del(4, 10), impl.AtStamp},
		{"whatever Pred is", 1, [5]int64{5, 1, 3, 10, -1}, 3, del(4, 10), impl.AtStamp},
		{"with a New", 1, [5]int64{2, 8, 3, 10, 5}, 3, del(4, 10), impl.AtStamp},
		{"one that is not linked", 1, [5]int64{2, 8, 5, 11, -1}, 5, del(4, 11), impl.AtStamp},
		{"the head", 1, [5]int64{2, 8, 0, 6, -1}, 0, del(1, 6), impl.AtStamp},
		{"no Curr", 1, [5]int64{2, 8, -1, 6, -1}, 0, del(1, 6), impl.AtStamp},
		{"somebody was faster", 1, [5]int64{2, 8, 3, 3, -1}, 0, impl.Ver{}, impl.AtGuide},
		{"the Head of Pred", 1, [5]int64{2, 8, 3, 8, -1}, 0, impl.Ver{}, impl.AtGuide},
		{"no Curr, and somebody was faster", 1, [5]int64{2, 8, -1, 8, -1}, 0, impl.Ver{}, impl.AtGuide},
		{"no room", 0, [5]int64{2, 8, 3, 10, -1}, 0, impl.Ver{}, impl.AtRest},
		{"no room, and no Curr", 0, [5]int64{2, 8, -1, 6, -1}, 0, impl.Ver{}, impl.AtRest},
		{"no room, and somebody was faster", 0, [5]int64{2, 8, 3, 3, -1}, 0, impl.Ver{}, impl.AtRest},
	} {
		for nodes := range int64(2) {
			list, h := roomed(planned{changePlan(), changeArena()}, nodes, c.room), c.hand(impl.AtMark)
			h.Code = impl.OpDel
			checkChanges(t, c.why, list, h, c.want(list.a, h, impl.ThMarked))
		}
	}
}

// Here it is the same reply whatever comes of the swap: the AtGuide and the AtRest of the rows tell only why none is made.
func TestAtClean(t *testing.T) {
	past := func(next int64, prev int64) impl.Ver { return impl.Ver{Next: next, Stamp: -1, Prev: prev} }
	values := map[int64]int64{-1: 0, 0: 0, 1: 100, 2: 200, 3: 400, 4: 500, 5: 300}
	for _, c := range []tried{
		{"to a node", 1, [5]int64{2, 8, 3, 10, -1}, 2, past(4, 8), impl.AtStamp},
		{"by an older version", 1, [5]int64{2, 8, 3, 3, -1}, 2, past(-1, 8), impl.AtStamp},
		{"to the end", 1, [5]int64{3, 10, 4, 9, -1}, 3, past(-1, 10), impl.AtStamp},
		{"of the head", 1, [5]int64{0, 6, 1, 7, -1}, 0, past(2, 6), impl.AtStamp},
		{"much room", 300, [5]int64{2, 8, 3, 10, 5}, 2, past(4, 8), impl.AtStamp},
		{"the head as Curr", 1, [5]int64{2, 8, 0, 10, -1}, 2, past(4, 8), impl.AtStamp},
		{"no Curr", 1, [5]int64{2, 8, -1, 10, -1}, 2, past(4, 8), impl.AtStamp},
		{"of the same node", 1, [5]int64{3, 10, 3, 10, -1}, 3, past(4, 10), impl.AtStamp},
		{"somebody was faster", 1, [5]int64{2, 2, 3, 10, -1}, 0, impl.Ver{}, impl.AtGuide},
		{"somebody was faster, and no Curr", 1, [5]int64{2, 2, -1, 10, -1}, 0, impl.Ver{}, impl.AtGuide},
		{"the Head of Curr", 1, [5]int64{2, 10, 3, 10, -1}, 0, impl.Ver{}, impl.AtGuide},
		{"no room", 0, [5]int64{2, 8, 3, 10, -1}, 0, impl.Ver{}, impl.AtRest},
		{"no room, and no Curr", 0, [5]int64{2, 8, -1, 10, -1}, 0, impl.Ver{}, impl.AtRest},
		{"no room, and somebody was faster", 0, [5]int64{2, 2, 1, 10, -1}, 0, impl.Ver{}, impl.AtRest},
	} {
		for nodes := range int64(2) {
			for _, held := range []int64{-1, 0, 7} {
				list, h := roomed(planned{changePlan(), changeArena()}, nodes, c.room), c.hand(impl.AtClean)
				h.Code, h.Held = impl.OpDel, held
				want := c.want(list.a, h, 0)
				want.Hand = impl.Hand{Key: -1, Held: held, Curr: -1, New: -1, Reply: impl.RpOld, Out: values[h.Curr]}
				checkChanges(t, c.why, list, h, want)
			}
		}
	}
}

func TestAtPoint(t *testing.T) {
	for guides := int64(1); guides <= 8; guides++ {
		for room := range int64(2) {
			list := roomed(planned{changePlan(), changeArena()}, room, room)
			list.p.Guides, list.a.Guides = guides, []int64{4, 4, 4, 4, 4, 4, 4, 4}[:guides]
			for key := int64(-1); key <= 63; key++ {
				for fresh := int64(-1); fresh <= 5; fresh++ {
					h := changed(changeHand(impl.AtPoint), func(h *impl.Hand) { h.Key, h.New = key, fresh })
					want := impl.Done{Arena: cloneArena(list.a), Hand: impl.Hand{Key: -1, Held: 7, Curr: -1, New: -1, Reply: impl.RpNew}}
					if key != -1 && fresh != -1 {
						want.Arena.Guides[slowPoint(guides, key)] = fresh
					}
					if d, is := impl.ChangeStep(list.p, list.a, 0, h, 9); !is || !sameDone(d, want) {
						t.Fatalf("%d guides, key %d, New %d: %v\n%+v, not\n%+v", guides, key, fresh, is, d, want)
					}
				}
			}
		}
	}
}

// Who is asked for a key behind the new one is pointed to it, and the guide asked for the key itself never is.
func TestAPointedGuideIsBelowWhoAsks(t *testing.T) {
	for key := int64(0); key <= 63; key++ {
		list := planned{changePlan(), changeArena()}
		list.a.Guides = []int64{0, 0, 0, 0}
		h := changed(changeHand(impl.AtMake), func(h *impl.Hand) { h.Key = key })
		made := checkChangeStep(t, "made", list, 0, h, 1)
		h = made.Hand
		h.At = impl.AtPoint
		d := checkChangeStep(t, "pointed", planned{list.p, made.Arena}, 0, h, 2)
		for asked := int64(0); asked <= 63; asked++ {
			want := int64(0)
			if asked/16 == key/16+1 {
				want = 6
			}
			if got := impl.StartFor(list.p, d.Arena, asked); got != want {
				t.Errorf("%d is there, %d is asked for: from %d, not from %d", key, asked, got, want)
			}
		}
	}
}

// Each code does alike, whatever Then is, and what else the hand holds counts for nothing.
func TestChangeStepsOfAnyHand(t *testing.T) {
	for room := range int64(2) {
		list := roomed(planned{changePlan(), changeArena()}, room, room)
		for _, at := range changeAts() {
			for code := int64(impl.OpNone); code <= impl.OpCut; code++ {
				for then := int64(impl.ThNone); then <= impl.ThTrim; then++ {
					h := changed(changeHand(at), func(h *impl.Hand) { h.Code, h.Then = code, then })
					checkChangeStep(t, "any code", list, 1, h, 9)
					none := changed(h, func(h *impl.Hand) { h.Curr, h.New, h.Held, h.Key = -1, -1, -1, -1 })
					checkChangeStep(t, "nothing known", list, 1, none, 9)
					checkChangeStep(t, "all zero", list, 1, impl.Hand{At: at, Code: code, Then: then}, 9)
				}
			}
		}
	}
}

func TestChangeStepIsNotOfOtherStates(t *testing.T) {
	for room := range int64(2) {
		list := roomed(planned{changePlan(), changeArena()}, room, room)
		for at := int64(impl.AtRest); at <= impl.AtSnip; at++ {
			for then := int64(impl.ThNone); then <= impl.ThTrim; then++ {
				for _, pred := range []int64{8, 2} {
					h := changed(changeHand(at), func(h *impl.Hand) { h.Then, h.PredVer = then, pred })
					d, is := impl.ChangeStep(list.p, list.a, 0, h, 9)
					if !impl.Fit(list.p, list.a, 0, h, 9) || is != (at >= 7 && at <= 12) || !is && !reflect.DeepEqual(d, impl.Done{}) {
						t.Errorf("At %d, then %d: %v %+v", at, then, is, d)
					}
				}
			}
		}
	}
}

func TestChangeStepOfWhatIsNotFit(t *testing.T) {
	for _, list := range []planned{{changePlan(), changeArena()}, {sealPlan(), sealArena()}} {
		for _, at := range changeAts() {
			h := changed(changeHand(at), func(h *impl.Hand) { h.New, h.CurrVer, h.PredVer = 1, list.a.Nodes[3].Head, list.a.Nodes[2].Head })
			if _, is := impl.ChangeStep(list.p, list.a, 0, h, 9); !is {
				t.Fatal("what is fit is refused")
			}
			eachUnfit(list, h, func(u unfit) {
				if d, is := impl.ChangeStep(u.list.p, u.list.a, u.me, u.h, u.clock); is || !reflect.DeepEqual(d, impl.Done{}) {
					t.Errorf("%s: At %d: %v %+v", u.why, at, is, d)
				}
			})
		}
	}
}

// What is not fit is refused also where there would be no room.
func TestChangeStepOfWhatIsNotFitWithoutRoom(t *testing.T) {
	list := roomed(planned{changePlan(), changeArena()}, 0, 0)
	for _, at := range changeAts() {
		eachUnfit(list, changeHand(at), func(u unfit) {
			if d, is := impl.ChangeStep(u.list.p, u.list.a, u.me, u.h, u.clock); is || !reflect.DeepEqual(d, impl.Done{}) {
				t.Errorf("%s: At %d: %v %+v", u.why, at, is, d)
			}
		})
	}
}

// wentOneChange does the next step of a put, a del or a get, and asks for promise 10 where it is one of changing.
func wentOneChange(t *testing.T, list planned, me int64, h impl.Hand, clock int64) (impl.Done, bool) {
	t.Helper()
	if d, is := impl.FindStep(list.p, list.a, me, h, clock); is {
		return d, true
	}
	if d, is := impl.SealStep(list.p, list.a, me, h, clock); is {
		return d, true
	}
	d, is := impl.ChangeStep(list.p, list.a, me, h, clock)
	if is {
		checkOnlyChanges(t, list, h, clock)
		checkUnseen(t, list, h, d)
	}
	return d, is
}

// checkUnseen asks that a node that was made is not in the list, now or at any stamp, till it is linked, and that
// to make one, or to aim it, is not to be seen there.
func checkUnseen(t *testing.T, list planned, h impl.Hand, d impl.Done) {
	t.Helper()
	if h.At != impl.AtMake && h.At != impl.AtAim {
		return
	}
	after := planned{list.p, d.Arena}
	if was, now := pairsBefore(list), pairsBefore(after); !samePairs(was, now) {
		t.Fatalf("%+v\n%+v: %v, not %v", list.a, h, now, was)
	}
	if d.Hand.New == -1 {
		return
	}
	for stamp := int64(0); stamp <= d.Arena.Camera; stamp++ {
		if slices.Contains(impl.NodesAt(list.p, d.Arena, stamp), d.Hand.New) {
			t.Fatalf("%+v\n%+v: it is seen at %d", d.Arena, d.Hand, stamp)
		}
	}
	if slices.Contains(impl.NodesNow(list.p, d.Arena), d.Hand.New) {
		t.Fatalf("%+v\n%+v: it is seen", d.Arena, d.Hand)
	}
}

// wholeCall is a call from its beginning to its reply, of one process alone; told are its deeds.
func wholeCall(t *testing.T, list planned, c call, clock int64) (impl.Arena, impl.Hand, []impl.Deed) {
	t.Helper()
	h, code := impl.Called(list.p, impl.NewHand(), c.code, c.key, c.value)
	if code != impl.CdOk {
		t.Fatal(c, code)
	}
	told := []impl.Deed{}
	for step := int64(0); h.At != impl.AtRest; step++ {
		d, is := wentOneChange(t, list, 0, h, clock+step)
		if !is || step > 300 {
			t.Fatalf("%+v\n%+v: it does not come to an end", list.a, h)
		}
		if list.a, h = d.Arena, d.Hand; d.Deed != (impl.Deed{}) {
			told = append(told, d.Deed)
		}
	}
	return list.a, h, told
}

// sortedPairs is what a map of keys to values has.
func sortedPairs(kept map[int64]int64) []impl.Pair {
	list := []impl.Pair{}
	for key, value := range kept {
		list = append(list, impl.Pair{Key: key, Value: value})
	}
	slices.SortFunc(list, func(a impl.Pair, b impl.Pair) int { return cmp.Compare(a.Key, b.Key) })
	return list
}

// keptCall does what a call does to a map of keys to values, and tells what one who does so alone replies, and its deed but for its clock.
func keptCall(kept map[int64]int64, c call, stamp int64) (impl.Hand, []impl.Deed) {
	value, there := kept[c.key]
	reply := impl.Hand{Key: -1, Held: -1, Curr: -1, New: -1, Reply: impl.RpNot}
	if there {
		reply.Reply, reply.Out = impl.RpOld, value
	}
	switch {
	case there && c.code == impl.OpDel:
		delete(kept, c.key)
		return reply, []impl.Deed{{Kind: impl.VrDel, Key: c.key, Value: value, Stamp: stamp}}
	case !there && c.code == impl.OpPut:
		kept[c.key], reply.Reply = c.value, impl.RpNew
		return reply, []impl.Deed{{Kind: impl.VrPut, Key: c.key, Value: c.value, Stamp: stamp}}
	}
	return reply, []impl.Deed{}
}

// checkFull asks, of a call that was told that there is no room, whether there was none, and that it has done nothing.
func checkFull(t *testing.T, list planned, c call, a impl.Arena, told []impl.Deed) {
	t.Helper()
	nodes, vers := impl.RoomIn(list.p, a)
	if vers > 0 && (nodes > 0 || c.code != impl.OpPut) || len(told) > 0 {
		t.Fatalf("%+v %+v: it is not full: %d, %d, %+v", a, c, nodes, vers, told)
	}
}

func drawnCall(d *dice, keys int64, apart int64) call {
	c := call{1 + d.throw(3), d.throw(keys) * apart, 0}
	if c.code == impl.OpPut {
		c.value = d.throw(10000)
	}
	return c
}

// One alone adds, takes out and looks, call by call, and each time the list is what a map of the keys would be.
func TestOneWhoChangesAlone(t *testing.T) {
	d := &dice{state: 1000}
	var replies [8]int
	for range 100 {
		p := impl.Plan{Procs: 1, Nodes: 6 + d.throw(20), Vers: 20 + d.throw(100), Guides: 1 + d.throw(8)}
		list, kept := planned{p, impl.BlankArena(p)}, map[int64]int64{}
		for range 40 {
			if d.throw(3) == 0 && list.a.Camera < 100 {
				list.a.Camera++
			}
			c := drawnCall(d, 20, 3)
			a, h, told := wholeCall(t, list, c, d.throw(1000))
			replies[h.Reply]++
			if full := (impl.Hand{Key: -1, Held: -1, Curr: -1, New: -1, Reply: impl.RpFull}); h == full {
				checkFull(t, list, c, a, told)
			} else {
				want, deeds := keptCall(kept, c, list.a.Camera)
				for i := range min(len(told), len(deeds)) {
					deeds[i].Clock = told[i].Clock
				}
				if h != want || !slices.Equal(told, deeds) {
					t.Fatalf("%+v %+v: %+v %+v, not %+v %+v", list.a, c, h, told, want, deeds)
				}
			}
			list.a = a
			if got := impl.PairsNow(p, a); !slices.Equal(got, sortedPairs(kept)) {
				t.Fatalf("%+v %+v: %v, not %v", a, c, got, sortedPairs(kept))
			}
		}
	}
	for _, reply := range []int64{impl.RpNew, impl.RpOld, impl.RpNot, impl.RpFull} {
		if replies[reply] < 50 {
			t.Error(replies)
		}
	}
}

// turns are some processes that change one list, each a step at a time, in drawn turns.
type turns struct {
	list  planned
	hands []impl.Hand
	calls []call
	deeds []impl.Deed
	clock int64
	again int // how often one had to begin anew with a node that it had made
}

// drawn puts a new call into each hand that rests.
func (w *turns) drawn(t *testing.T, d *dice) {
	t.Helper()
	for who := range w.hands {
		c := drawnCall(d, 8, 8)
		h, code := impl.Called(w.list.p, w.hands[who], c.code, c.key, c.value)
		if code != impl.CdOk {
			t.Fatal(c, code)
		}
		w.hands[who], w.calls[who] = h, c
	}
}

// ran goes on in drawn turns till all are at rest; at times the camera goes on.
func (w *turns) ran(t *testing.T, d *dice) {
	t.Helper()
	going := []int64{}
	for who := range w.hands {
		going = append(going, int64(who))
	}
	for ; len(going) > 0; w.clock++ {
		who := going[d.throw(int64(len(going)))]
		h := w.hands[who]
		done, is := wentOneChange(t, w.list, who, h, w.clock)
		if !is || w.clock > 19999 {
			t.Fatalf("%+v\n%+v: it does not come to an end", w.list.a, w.hands)
		}
		if h.At == impl.AtLink && done.Hand.At == impl.AtGuide {
			if done.Hand.New != h.New || h.New == -1 {
				t.Fatalf("%+v: the node that it made is lost", done.Hand)
			}
			w.again++
		}
		if w.list.a, w.hands[who] = done.Arena, done.Hand; done.Deed != (impl.Deed{}) {
			w.deeds = append(w.deeds, done.Deed)
		}
		if !impl.InOrder(impl.PairsNow(w.list.p, w.list.a)) {
			t.Fatalf("%+v: not in order", w.list.a)
		}
		if done.Hand.At == impl.AtRest {
			going = slices.DeleteFunc(going, func(i int64) bool { return i == who })
		}
		if d.throw(20) == 0 && w.list.a.Camera < 100 {
			w.list.a.Camera++
		}
	}
}

// storied is what the deeds of a stamp of at most that make, by their clocks.
func (w *turns) storied(t *testing.T, stamp int64) []impl.Pair {
	t.Helper()
	kept := map[int64]int64{}
	slices.SortStableFunc(w.deeds, func(a impl.Deed, b impl.Deed) int { return cmp.Compare(a.Clock, b.Clock) })
	for _, deed := range w.deeds {
		if deed.Stamp > stamp {
			continue
		}
		value, there := kept[deed.Key]
		if there != (deed.Kind == impl.VrDel) || there && value != deed.Value {
			t.Fatalf("%+v: %+v can't have been done", w.deeds, deed)
		}
		if kept[deed.Key] = deed.Value; there {
			delete(kept, deed.Key)
		}
	}
	return sortedPairs(kept)
}

// Four that change one list at once, in drawn turns: when all is quiet, the list is what was told of it, now and at each stamp.
func TestManyWhoChange(t *testing.T) {
	d := &dice{state: 10000}
	again, deeds := 0, 0
	for range 150 {
		p := impl.Plan{Procs: 4, Nodes: 60, Vers: 400, Guides: 1 + d.throw(8)}
		w := &turns{list: planned{p, impl.BlankArena(p)}, hands: make([]impl.Hand, 4), calls: make([]call, 4)}
		for who := range w.hands {
			w.hands[who] = impl.NewHand()
		}
		for range 10 {
			before := len(w.deeds)
			w.drawn(t, d)
			w.ran(t, d)
			news, dels := 0, 0
			for who, h := range w.hands {
				if h.Reply == impl.RpFull || h.Reply == impl.RpNone {
					t.Fatalf("%+v: %+v", w.calls[who], h)
				}
				if h.Reply == impl.RpNew {
					news++
				}
				if h.Reply == impl.RpOld && w.calls[who].code == impl.OpDel {
					dels++
				}
			}
			put := func(deed impl.Deed) bool { return deed.Kind == impl.VrPut }
			fresh := slices.Clone(w.deeds[before:])
			if got := len(slices.DeleteFunc(fresh, put)); got != dels || len(w.deeds)-before != news+dels {
				t.Fatalf("%+v: %d were added, %d were taken out", w.deeds[before:], news, dels)
			}
			if got, want := impl.PairsNow(p, w.list.a), w.storied(t, 100); !slices.Equal(got, want) {
				t.Fatalf("%+v\n%+v: %v, not %v", w.list.a, w.deeds, got, want)
			}
			for stamp := int64(0); stamp <= w.list.a.Camera; stamp++ {
				if got, want := impl.PairsAt(p, w.list.a, stamp), w.storied(t, stamp); !slices.Equal(got, want) {
					t.Fatalf("%+v\n%+v: at %d %v, not %v", w.list.a, w.deeds, stamp, got, want)
				}
			}
		}
		again, deeds = again+w.again, deeds+len(w.deeds)
	}
	if again < 200 || deeds < 1500 {
		t.Errorf("only %d began anew with what they had made, only %d deeds", again, deeds)
	}
}

// goesTo does the steps of one hand till it is there.
func goesTo(t *testing.T, list planned, me int64, h impl.Hand, at int64) (impl.Arena, impl.Hand) {
	t.Helper()
	for clock := int64(0); h.At != at; clock++ {
		d, is := wentOneChange(t, list, me, h, clock)
		if !is || clock > 300 {
			t.Fatalf("%+v\n%+v: it does not come to %d", list.a, h, at)
		}
		list.a, h = d.Arena, d.Hand
	}
	return list.a, h
}

func asked(t *testing.T, p impl.Plan, c call) impl.Hand {
	t.Helper()
	h, code := impl.Called(p, impl.NewHand(), c.code, c.key, c.value)
	if code != impl.CdOk {
		t.Fatal(c, code)
	}
	return h
}

// A node that was made waits till it is linked: whoever was faster, it is aimed anew, and no second one is made.
func TestANodeThatIsMadeIsAimedAnew(t *testing.T) {
	p := impl.Plan{Procs: 2, Nodes: 10, Vers: 30, Guides: 4}
	list := planned{p, impl.BlankArena(p)}
	var h impl.Hand
	list.a, h = goesTo(t, list, 0, asked(t, p, call{impl.OpPut, 20, 5}), impl.AtLink)
	if h.New != 1 || len(list.a.Nodes) != 2 || len(impl.NodesNow(p, list.a)) != 0 {
		t.Fatalf("%+v\n%+v", list.a, h)
	}
	// Keys that come behind it and ahead of it, each faster than the link.
	for i, key := range []int64{30, 25, 10, 15} {
		var reply impl.Hand
		if list.a, reply, _ = wholeCall(t, list, call{impl.OpPut, key, key}, 100); reply.Reply != impl.RpNew {
			t.Fatal(reply)
		}
		d := checkChangeStep(t, "too late", list, 0, h, 200)
		if d.Hand.At != impl.AtGuide || !sameArena(d.Arena, list.a) {
			t.Fatalf("%+v", d)
		}
		list.a, h = goesTo(t, list, 0, d.Hand, impl.AtAim)
		list.a, h = goesTo(t, list, 0, h, impl.AtLink)
		if h.New != 1 || len(list.a.Nodes) != 3+i || list.a.Vers[1].Next != h.Curr {
			t.Fatalf("%+v\n%+v", list.a, h)
		}
		if slices.Contains(impl.NodesNow(p, list.a), 1) {
			t.Fatalf("%+v: it is seen", list.a)
		}
	}
	list.a, h = goesTo(t, list, 0, h, impl.AtRest)
	want := []impl.Pair{{Key: 10, Value: 10}, {Key: 15, Value: 15}, {Key: 20, Value: 5}, {Key: 25, Value: 25}, {Key: 30, Value: 30}}
	if got := impl.PairsNow(p, list.a); h.Reply != impl.RpNew || !slices.Equal(got, want) || len(list.a.Nodes) != 6 {
		t.Errorf("%+v: %v, not %v", h, got, want)
	}
}

// Where the very key comes in ahead of it, the node that was made stays out of the list for good, and so does one for whose link there is no room.
func TestANodeThatIsMadeAndNeverLinked(t *testing.T) {
	p := impl.Plan{Procs: 2, Nodes: 10, Vers: 30, Guides: 4}
	list := planned{p, impl.BlankArena(p)}
	var h impl.Hand
	list.a, h = goesTo(t, list, 0, asked(t, p, call{impl.OpPut, 20, 5}), impl.AtLink)
	list.a, _, _ = wholeCall(t, list, call{impl.OpPut, 20, 6}, 100)
	list.a, h = goesTo(t, list, 0, h, impl.AtRest)
	if h.Reply != impl.RpOld || h.Out != 6 || !slices.Equal(impl.NodesNow(p, list.a), []int64{2}) {
		t.Fatalf("%+v\n%+v", list.a, h)
	}
	list.a, h = goesTo(t, list, 0, asked(t, p, call{impl.OpPut, 21, 7}), impl.AtLink)
	full := withRoom(list, 0)
	d := checkChangeStep(t, "no room for its link", full, 0, h, 100)
	if d.Hand.Reply != impl.RpFull || !sameArena(d.Arena, list.a) || len(d.Arena.Nodes) != 4 {
		t.Fatalf("%+v", d)
	}
	// With room again the next one makes a node of its own.
	list.a, h, _ = wholeCall(t, planned{p, d.Arena}, call{impl.OpPut, 21, 8}, 100)
	if got := impl.NodesNow(p, list.a); h.Reply != impl.RpNew || !slices.Equal(got, []int64{2, 4}) || list.a.Nodes[4].Value != 8 {
		t.Errorf("%+v\n%+v: %v", list.a, h, got)
	}
}

// Where two take out one key, one of them does; the other one begins anew, and finds it gone.
func TestOneKeyIsTakenOutOnce(t *testing.T) {
	p := impl.Plan{Procs: 2, Nodes: 10, Vers: 30, Guides: 4}
	list := planned{p, impl.BlankArena(p)}
	list.a, _, _ = wholeCall(t, list, call{impl.OpPut, 20, 5}, 0)
	var one, other impl.Hand
	list.a, one = goesTo(t, list, 0, asked(t, p, call{impl.OpDel, 20, 0}), impl.AtMark)
	list.a, other = goesTo(t, list, 1, asked(t, p, call{impl.OpDel, 20, 0}), impl.AtMark)
	list.a, one = goesTo(t, list, 0, one, impl.AtClean)
	if len(impl.PairsNow(p, list.a)) != 0 || !slices.Equal(impl.NodesNow(p, list.a), []int64{1}) {
		t.Fatalf("%+v", list.a)
	}
	list.a, other = goesTo(t, list, 1, other, impl.AtUnlink)
	list.a, other = goesTo(t, list, 1, other, impl.AtRest)
	if other.Reply != impl.RpNot || len(impl.NodesNow(p, list.a)) != 0 {
		t.Fatalf("%+v\n%+v", list.a, other)
	}
	// Somebody else has unlinked it: that changes nothing of what the first one replies.
	was := cloneArena(list.a)
	list.a, one = goesTo(t, list, 0, one, impl.AtRest)
	if one.Reply != impl.RpOld || one.Out != 5 || !sameArena(list.a, was) {
		t.Errorf("%+v\n%+v", list.a, one)
	}
}

// changeHands are one of each At, and of each way in which it can end but for the room.
func changeHands() []impl.Hand {
	list := []impl.Hand{changeHand(impl.AtHead), changeHand(impl.AtRest)}
	for _, at := range changeAts() {
		list = append(list, changeHand(at),
			changed(changeHand(at), func(h *impl.Hand) { h.PredVer, h.CurrVer = 2, 3 }),
			changed(changeHand(at), func(h *impl.Hand) { h.New, h.Key = -1, -1 }),
			changed(changeHand(at), func(h *impl.Hand) { h.Curr, h.CurrVer = -1, 6 }))
	}
	return list
}

func TestChangeArgumentsStay(t *testing.T) {
	for room := range int64(4) {
		list := roomed(planned{changePlan(), roomy(changeArena())}, room/2, room%2)
		was := list.p
		whole := cloneArena(wholeArena(list.a))
		for _, h := range changeHands() {
			kept := h
			first, is := impl.ChangeStep(list.p, list.a, 0, h, 9)
			want := cloneArena(first.Arena)
			impl.ChangeStep(impl.Plan{}, list.a, 0, h, 9)
			impl.ChangeStep(list.p, list.a, -1, h, 9)
			scribble(wholeArena(first.Arena))
			second, again := impl.ChangeStep(list.p, list.a, 0, h, 9)
			if again != is || !sameArena(second.Arena, want) || second.Hand != first.Hand || h != kept || list.p != was {
				t.Errorf("room %d: %+v: another answer", room, h)
			}
			if !reflect.DeepEqual(cloneArena(wholeArena(list.a)), whole) {
				t.Fatalf("At %d: %+v was written into", h.At, list.a)
			}
		}
	}
}

// Also an arena that is answered as it is shares nothing with the one that came in.
func TestChangeStepsShareNothing(t *testing.T) {
	for room := range int64(4) {
		for _, h := range changeHands() {
			list := roomed(planned{changePlan(), roomy(changeArena())}, room/2, room%2)
			whole := cloneArena(wholeArena(list.a))
			first, _ := impl.ChangeStep(list.p, list.a, 0, h, 9)
			second, _ := impl.ChangeStep(list.p, list.a, 0, h, 9)
			want := cloneArena(second.Arena)
			checkApart(t, [][]int64{first.Arena.Slots, first.Arena.Guides}, 55)
			scribble(wholeArena(first.Arena))
			if !sameArena(second.Arena, want) || !sameArena(cloneArena(wholeArena(list.a)), whole) {
				t.Errorf("%+v: what is written into one answer is elsewhere", h)
			}
			scribble(wholeArena(list.a))
			if !sameArena(second.Arena, want) {
				t.Errorf("%+v: what is written into the argument is in the answer", h)
			}
		}
	}
}
