package tests

import (
	"math"
	"reflect"
	"slices"
	"testing"

	"loop.example/g00715/impl"
)

// swap is what is asked of Swapped beside a plan and an arena.
type swap struct {
	node int64
	v    int64
	next int64
	gone bool
	kind int64
}

func (s swap) of(list planned) (impl.Arena, int64) {
	return impl.Swapped(list.p, list.a, s.node, s.v, s.next, s.gone, s.kind)
}

// slowSwapped wants a right plan and arena. It follows the document word by word, in its own numbers.
func slowSwapped(list planned, s swap) (impl.Arena, int64) {
	nodes, vers := int64(len(list.a.Nodes)), int64(len(list.a.Vers))
	if s.node < 0 || s.node >= nodes {
		return impl.Arena{}, -2
	}
	a := cloneArena(list.a)
	if vers == list.p.Vers {
		return a, -2
	}
	if a.Nodes[s.node].Head != s.v {
		return a, -1
	}
	if s.next < -1 || s.next == 0 || s.next >= nodes || s.kind < 0 || s.kind > 2 {
		return a, -2
	}
	a.Vers = append(a.Vers, impl.Ver{Next: s.next, Gone: s.gone, Stamp: -1, Prev: s.v, Kind: s.kind})
	a.Nodes[s.node].Head = vers
	return a, vers
}

// checkSwap holds one swap against the slow one, and tells what was answered.
func checkSwap(t *testing.T, why string, list planned, s swap) (impl.Arena, int64) {
	t.Helper()
	want, wantTold := slowSwapped(list, s)
	got, told := s.of(list)
	if told != wantTold || !sameArena(got, want) {
		t.Fatalf("%s: %+v\n%+v\n%+v: %d\n%+v\nnot %d\n%+v", why, list.p, list.a, s, told, got, wantTold, want)
	}
	return got, told
}

// withRoom is the same with so many versions more in its plan than there are, as far as a plan goes.
func withRoom(list planned, room int64) planned {
	list.p.Vers = min(int64(len(list.a.Vers))+room, impl.MaxVers)
	return list
}

// swapArenas are right ones, each as it is, with room for one version more, and with none; the last has room for the greatest number of all.
func swapArenas() []planned {
	list := append(rightArenas(), planned{sealPlan(), sealArena()}, planned{viewPlan(), viewArena()}, plainArena(1, 2, 3, -1), plainArena(-1))
	for _, each := range slices.Clone(list) {
		list = append(list, withRoom(each, 1), withRoom(each, 0))
	}
	most := impl.Plan{Procs: 1, Nodes: 60, Vers: 399, Guides: 1}
	last := fullArena(most)
	last.Camera = 100
	return append(list, planned{most, last}, withRoom(planned{most, last}, 1))
}

// oddNumbers are those below, round and past what there is so many of, and those that are far out.
func oddNumbers(many int64) []int64 {
	return append(farOut(), 0, 1, many-1, many, many+1, many+100, math.MinInt32, math.MaxInt32, 1<<32+many-1)
}

// checkNothingElse asks for promise 8 of one swap, in other words than the slow one does.
func checkNothingElse(t *testing.T, list planned, s swap) bool {
	t.Helper()
	was := cloneArena(list.a)
	got, told := s.of(list)
	nodes, vers := int64(len(was.Nodes)), int64(len(was.Vers))
	fits := slices.Contains([]int64{0, 1, 2}, s.kind) && (s.next == -1 || s.next > 0 && s.next < nodes)
	first := was.Nodes[s.node].Head == s.v
	if made := first && fits && vers < list.p.Vers; made != (told >= 0) || !made && (told < -2 || !sameArena(got, was)) {
		t.Fatalf("%+v\n%+v: %d\n%+v", was, s, told, got)
	}
	if told < 0 {
		return false
	}
	if told != vers || int64(len(got.Vers)) != vers+1 || !impl.ArenaOk(list.p, got) || impl.Stamped(got, told) ||
		impl.VersionNow(list.p, got, s.node) != told || impl.DepthOf(list.p, got, s.node) != impl.DepthOf(list.p, was, s.node)+1 {
		t.Fatalf("%+v\n%+v: %d\n%+v", was, s, told, got)
	}
	if fresh := (impl.Ver{Next: s.next, Gone: s.gone, Stamp: -1, Prev: s.v, Kind: s.kind}); got.Vers[told] != fresh {
		t.Fatalf("%+v\n%+v: %+v", was, s, got.Vers[told])
	}
	// Without the new version, and with the Head as it was, there must be nothing that is another one.
	got.Vers, got.Nodes[s.node].Head = got.Vers[:told], s.v
	if !sameArena(got, was) {
		t.Fatalf("%+v\n%+v: more is changed: %+v", was, s, got)
	}
	return true
}

// Promise 8.
func TestASwapIsMadeWhereNobodyWasFaster(t *testing.T) {
	d := &dice{state: 8}
	made, missed := 0, 0
	count := func(is bool) {
		if is {
			made++
		} else {
			missed++
		}
	}
	for range 3000 {
		list := withRoom(thrownArena(d), d.throw(4))
		nodes, vers := int64(len(list.a.Nodes)), int64(len(list.a.Vers))
		for range 10 {
			s := swap{d.throw(nodes), d.throw(vers+2) - 1, d.throw(nodes+3) - 2, d.throw(2) == 0, d.throw(5) - 1}
			count(checkNothingElse(t, list, s))
			s.v = list.a.Nodes[s.node].Head
			count(checkNothingElse(t, list, s))
		}
	}
	for _, list := range swapArenas() {
		for n, node := range list.a.Nodes {
			for _, next := range []int64{-1, 0, 1, int64(len(list.a.Nodes)) - 1} {
				count(checkNothingElse(t, list, swap{int64(n), node.Head, next, n%2 == 0, int64(n) % 3}))
				count(checkNothingElse(t, list, swap{int64(n), node.Head - 1, next, n%2 == 1, int64(n) % 3}))
			}
		}
	}
	if made < 5000 || missed < 5000 {
		t.Errorf("only %d swaps were made, only %d were not", made, missed)
	}
}

func TestSwapsAsTheDocumentTells(t *testing.T) {
	d := &dice{state: 88}
	for range 12 {
		for room := range int64(3) {
			eachSwap(withRoom(thrownArena(d), room), func(list planned, s swap) { checkSwap(t, "thrown", list, s) })
		}
	}
	for _, list := range swapArenas() {
		nodes, vers := int64(len(list.a.Nodes)), int64(len(list.a.Vers))
		for range 100 {
			of := func(many int64) int64 {
				odd := oddNumbers(many)
				if d.throw(2) == 0 {
					return d.throw(many)
				}
				return odd[d.throw(int64(len(odd)))]
			}
			s := swap{of(nodes), of(vers), of(nodes), d.throw(2) == 0, of(3)}
			checkSwap(t, "odd", list, s)
			if s.node >= 0 && s.node < nodes {
				s.v = list.a.Nodes[s.node].Head
				checkSwap(t, "odd, of the Head", list, s)
			}
		}
	}
}

// eachSwap gives each one that there is to ask of such a small arena, with one or two past each end.
func eachSwap(list planned, check func(list planned, s swap)) {
	nodes, vers := int64(len(list.a.Nodes)), int64(len(list.a.Vers))
	for node := int64(-1); node <= nodes; node++ {
		for v := int64(-2); v <= vers; v++ {
			for next := int64(-2); next <= nodes; next++ {
				for kind := int64(-1); kind <= 3; kind++ {
					check(list, swap{node, v, next, false, kind})
					check(list, swap{node, v, next, true, kind})
				}
			}
		}
	}
}

func TestSwappedAtTheEdges(t *testing.T) {
	// Of the sealArena the Heads are 5, 4, 7 and 6; there are 4 nodes and 10 versions.
	for _, c := range []struct {
		why  string
		room int64
		swap swap
		told int64
	}{
		{"no Next", 1, swap{0, 5, -1, false, 0}, 10},
		{"the first node as Next", 1, swap{0, 5, 1, false, 1}, 10},
		{"the last node as Next", 1, swap{0, 5, 3, false, 1}, 10},
		{"itself as Next", 1, swap{2, 7, 2, false, 1}, 10},
		{"gone", 1, swap{3, 6, -1, true, 2}, 10},
		{"gone, of no kind", 1, swap{3, 6, -1, true, 0}, 10},
		{"not gone, though taken out", 1, swap{3, 6, -1, false, 2}, 10},
		{"the head, gone", 1, swap{0, 5, 1, true, 2}, 10},
		{"a Head with a stamp", 1, swap{1, 4, 2, false, 0}, 10},
		{"the last node", 1, swap{3, 6, 1, false, 0}, 10},
		{"much room", 390, swap{0, 5, 1, false, 0}, 10},
		{"Next the head", 1, swap{0, 5, 0, false, 0}, -2},
		{"Next one past the last node", 1, swap{0, 5, 4, false, 0}, -2},
		{"Next one that the plan has room for", 1, swap{0, 5, 6, false, 0}, -2},
		{"Next below none", 1, swap{0, 5, -2, false, 0}, -2},
		{"Next far out", 1, swap{0, 5, math.MaxInt64, false, 0}, -2},
		{"Next far below", 1, swap{0, 5, math.MinInt64, false, 0}, -2},
		{"Next that is right in 32 bits", 1, swap{0, 5, 1<<32 + 1, false, 0}, -2},
		{"Kind below", 1, swap{0, 5, 1, false, -1}, -2},
		{"Kind above", 1, swap{0, 5, 1, false, 3}, -2},
		{"Kind far out", 1, swap{0, 5, 1, false, math.MaxInt64}, -2},
		{"Kind far below", 1, swap{0, 5, 1, false, math.MinInt64}, -2},
		{"Next and Kind wrong", 1, swap{0, 5, 0, true, 3}, -2},
		{"an older version", 1, swap{0, 0, 1, false, 1}, -1},
		{"another node's Head", 1, swap{0, 4, 1, false, 1}, -1},
		{"a newer version", 1, swap{0, 6, 1, false, 1}, -1},
		{"the one that would be made", 1, swap{0, 10, 1, false, 1}, -1},
		{"no version", 1, swap{0, -1, 1, false, 1}, -1},
		{"a version far out", 1, swap{0, math.MaxInt64, 1, false, 1}, -1},
		{"a version far below", 1, swap{0, math.MinInt64, 1, false, 1}, -1},
		{"another Head, ahead of a wrong Next", 1, swap{0, 4, 0, false, 1}, -1},
		{"another Head, ahead of a wrong Kind", 1, swap{0, 4, 1, false, 3}, -1},
		{"no room", 0, swap{0, 5, 1, false, 1}, -2},
		{"no room, ahead of another Head", 0, swap{0, 4, 1, false, 1}, -2},
		{"no room, no version", 0, swap{0, -1, 1, false, 1}, -2},
		{"no room, another Head, and Next wrong", 0, swap{0, 4, 0, false, 3}, -2},
		{"no room, and Next wrong", 0, swap{0, 5, 0, false, 1}, -2},
	} {
		list := withRoom(planned{sealPlan(), sealArena()}, c.room)
		if _, told := checkSwap(t, c.why, list, c.swap); told != c.told {
			t.Errorf("%s: %d, not %d", c.why, told, c.told)
		}
	}
}

func TestSwappedOfEachKindAndGone(t *testing.T) {
	for _, list := range []planned{withRoom(planned{sealPlan(), sealArena()}, 1), withRoom(plainArena(-1), 5), {busyPlan(), busyArena()}} {
		number, head := int64(len(list.a.Vers)), list.a.Nodes[0].Head
		for kind := range int64(3) {
			for _, gone := range []bool{false, true} {
				a, told := impl.Swapped(list.p, list.a, 0, head, -1, gone, kind)
				if want := (impl.Ver{Next: -1, Gone: gone, Stamp: -1, Prev: head, Kind: kind}); told != number || a.Vers[number] != want {
					t.Errorf("kind %d, gone %v: %d %+v", kind, gone, told, a)
				}
			}
		}
	}
}

// In the smallest plan there is no room from the first; in one of two versions it is gone with the first swap.
func TestSwappedOfSmallPlans(t *testing.T) {
	for vers := int64(1); vers <= 4; vers++ {
		p := impl.Plan{Procs: 1, Nodes: 1, Vers: vers, Guides: 1}
		list := planned{p, impl.BlankArena(p)}
		for v := range vers {
			for wrong := int64(-1); wrong <= 4; wrong++ {
				if wrong != v {
					checkSwap(t, "another one", list, swap{0, wrong, -1, true, 2})
				}
			}
			a, told := checkSwap(t, "the Head", list, swap{0, v, -1, v%2 == 0, v % 3})
			if (told == v+1) != (v+1 < vers) || (told == -2) != (v+1 == vers) {
				t.Fatalf("%+v: the version %d comes behind %d", p, told, v)
			}
			list.a = a
		}
	}
}

// Two that have met the same version: the first one is made, the second one is told that it was too late.
func TestOfTwoSwapsTheFirstIsMade(t *testing.T) {
	list := withRoom(planned{sealPlan(), sealArena()}, 2)
	a, told := impl.Swapped(list.p, list.a, 2, 7, -1, true, impl.VrDel)
	if told != 10 {
		t.Fatal(told)
	}
	late, told := impl.Swapped(list.p, a, 2, 7, 3, false, impl.VrPut)
	if told != -1 || !sameArena(late, a) {
		t.Fatal(told, late)
	}
	// Another link of the same arena is not touched by it, nor is one who meets the new version too late.
	b, told := impl.Swapped(list.p, late, 0, 5, 2, false, impl.VrNone)
	if told != 11 || b.Nodes[2].Head != 10 || b.Nodes[0].Head != 11 {
		t.Fatal(told, b)
	}
	if c, told := impl.Swapped(list.p, b, 2, 10, 3, false, impl.VrPut); told != -2 || !sameArena(c, b) {
		t.Fatal(told, c)
	}
}

// A list that is swapped till there is no room remembers each stamp that it had ahead of it.
func TestSwapsTillThereIsNoRoom(t *testing.T) {
	list := withRoom(planned{viewPlan(), viewArena()}, impl.MaxVers)
	was := [][]impl.Pair{}
	for stamp := int64(0); stamp <= 9; stamp++ {
		was = append(was, impl.PairsAt(list.p, list.a, stamp))
	}
	d := &dice{state: 888}
	want := [5][]int64{}
	for n := range want {
		want[n] = impl.VersionsOf(list.p, list.a, int64(n))
	}
	for number := int64(11); number < 400; number++ {
		n := d.throw(5)
		next := d.throw(5)
		if next == 0 {
			next = -1
		}
		a, told := impl.Swapped(list.p, list.a, n, want[n][0], next, d.throw(2) == 0, d.throw(3))
		if told != number {
			t.Fatalf("%d was made, not %d", told, number)
		}
		list.a, want[n] = a, append([]int64{number}, want[n]...)
	}
	for n := range int64(5) {
		if got := impl.VersionsOf(list.p, list.a, n); !slices.Equal(got, want[n]) {
			t.Errorf("node %d: %v, not %v", n, got, want[n])
		}
		checkSwap(t, "no room any more", list, swap{n, want[n][0], -1, false, 0})
		checkSwap(t, "no room any more", list, swap{n, 0, -1, false, 0})
	}
	for stamp, pairs := range was {
		if got := impl.PairsAt(list.p, list.a, int64(stamp)); !slices.Equal(got, pairs) {
			t.Errorf("at %d: %v, not %v", stamp, got, pairs)
		}
	}
	if nodes, vers := impl.RoomIn(list.p, list.a); nodes != 1 || vers != 0 {
		t.Error(nodes, vers)
	}
}

// checkNoSwap asks for the zero arena, whatever else is asked for.
func checkNoSwap(t *testing.T, why string, p impl.Plan, a impl.Arena, node int64) {
	t.Helper()
	for _, s := range []swap{{node, 0, -1, false, 0}, {node, 4, 1, true, 2}, {node, 9, 2, false, 1}, {node, -1, 0, false, 3}, {node, 5, 1, false, 0}} {
		if got, told := s.of(planned{p, a}); told != -2 || !sameArena(got, impl.Arena{}) {
			t.Errorf("%s: %+v: %d %+v", why, s, told, got)
		}
	}
}

func checkNoRoom(t *testing.T, why string, p impl.Plan, a impl.Arena) {
	t.Helper()
	if nodes, vers := impl.RoomIn(p, a); nodes != -1 || vers != -1 {
		t.Errorf("%s: room for %d and %d", why, nodes, vers)
	}
}

func TestSwapsOfWrongNodes(t *testing.T) {
	for _, list := range swapArenas() {
		nodes := int64(len(list.a.Nodes))
		for _, n := range append(farOut(), nodes, nodes+1, list.p.Nodes, math.MinInt32, math.MaxInt32, 1<<32) {
			checkNoSwap(t, "no such node", list.p, list.a, n)
			// That is so ahead of the Head and of the room, too.
			checkSwap(t, "no such node", list, swap{n, list.a.Nodes[0].Head, -1, false, 0})
		}
	}
}

func TestSwapsOfWrongPlans(t *testing.T) {
	for _, p := range wrongPlans() {
		for _, a := range []impl.Arena{{}, busyArena(), sealArena(), impl.BlankArena(sealPlan())} {
			for n := int64(-1); n <= 4; n++ {
				checkNoSwap(t, "a wrong plan", p, a, n)
			}
			checkNoRoom(t, "a wrong plan", p, a)
		}
	}
	for field, most := range [4]int64{4, 3, 9, 3} {
		p := withField(sealPlan(), field, most)
		checkNoSwap(t, "another plan", p, sealArena(), 0)
		checkNoRoom(t, "another plan", p, sealArena())
	}
}

func TestSwapsOfWrongArenas(t *testing.T) {
	for _, each := range []planned{{busyPlan(), busyArena()}, {sealPlan(), sealArena()}} {
		eachWrongNumber(each.a, func(a impl.Arena, name string) {
			for n := range int64(len(a.Nodes)) {
				checkNoSwap(t, name, each.p, a, n)
			}
			checkNoRoom(t, name, each.p, a)
		})
	}
	for _, camera := range append(farOut(), 5, 101) {
		a := sealArena()
		if a.Camera = camera; camera < 6 || camera > 100 {
			checkNoSwap(t, "a wrong camera", sealPlan(), a, 0)
			checkNoRoom(t, "a wrong camera", sealPlan(), a)
		}
	}
	checkNoSwap(t, "the zero arena", sealPlan(), impl.Arena{}, 0)
	checkNoRoom(t, "the zero arena", sealPlan(), impl.Arena{})
	checkNoSwap(t, "nothing at all", impl.Plan{}, impl.Arena{}, 0)
	checkNoRoom(t, "nothing at all", impl.Plan{}, impl.Arena{})
	// An arena that is too full is not right: that is no matter of room.
	full := fullArena(busyPlan())
	full.Vers = append(full.Vers, impl.Ver{Next: -1, Prev: -1})
	checkNoSwap(t, "a version too many", busyPlan(), full, 0)
	checkNoRoom(t, "a version too many", busyPlan(), full)
}

func TestRoomIn(t *testing.T) {
	check := func(why string, p impl.Plan, a impl.Arena, nodes int64, vers int64) {
		t.Helper()
		if gotNodes, gotVers := impl.RoomIn(p, a); gotNodes != nodes || gotVers != vers {
			t.Errorf("%s, %+v: room for %d and %d, not for %d and %d", why, p, gotNodes, gotVers, nodes, vers)
		}
	}
	for _, p := range append(rightPlans(), busyPlan(), sealPlan(), viewPlan()) {
		blank, full := impl.BlankArena(p), fullArena(p)
		check("blank", p, blank, p.Nodes-1, p.Vers-1)
		check("full", p, full, 0, 0)
		manyNodes := cloneArena(blank)
		for n := int64(1); n < p.Nodes; n++ {
			manyNodes.Nodes = append(manyNodes.Nodes, impl.Node{Key: n})
			check("more nodes", p, manyNodes, p.Nodes-1-n, p.Vers-1)
		}
		manyVers := cloneArena(blank)
		for v := int64(1); v < p.Vers; v++ {
			manyVers.Vers = append(manyVers.Vers, impl.Ver{Next: -1, Stamp: -1, Prev: -1})
			check("more versions", p, manyVers, p.Nodes-1, p.Vers-1-v)
		}
	}
	check("some of each", busyPlan(), busyArena(), 2, 2)
	check("some of each", sealPlan(), sealArena(), 3, 6)
}

// How much room there is tells which swap is the last.
func TestRoomIsWhatCanBeSwapped(t *testing.T) {
	d := &dice{state: 8888}
	for range 1000 {
		list := withRoom(thrownArena(d), d.throw(6))
		nodes, vers := impl.RoomIn(list.p, list.a)
		if nodes != list.p.Nodes-int64(len(list.a.Nodes)) {
			t.Fatalf("%+v\n%+v: room for %d nodes", list.p, list.a, nodes)
		}
		for left := vers; left > 0; left-- {
			a, told := impl.Swapped(list.p, list.a, 0, list.a.Nodes[0].Head, -1, false, 0)
			stay, now := impl.RoomIn(list.p, a)
			if told < 0 || stay != nodes || now != left-1 {
				t.Fatalf("%+v\n%+v: %d, then room for %d and %d", list.p, list.a, told, stay, now)
			}
			list.a = a
		}
		if a, told := impl.Swapped(list.p, list.a, 0, list.a.Nodes[0].Head, -1, false, 0); told != -2 || !sameArena(a, list.a) {
			t.Fatalf("%+v\n%+v: %d without room", list.p, list.a, told)
		}
	}
}

// someSwaps are one that is made, and one of each way in which it is not.
func someSwaps() []swap {
	return []swap{{0, 5, 1, false, 1}, {0, 4, 1, false, 1}, {0, 5, 0, false, 1}, {0, 5, 1, true, 3}, {9, 5, 1, false, 1}}
}

func TestSwapArgumentsStay(t *testing.T) {
	wrong := sealArena()
	wrong.Vers[2].Next = 0
	for _, a := range []impl.Arena{sealArena(), busyArena(), viewArena(), impl.BlankArena(sealPlan()), wrong} {
		a = roomy(a)
		whole := cloneArena(wholeArena(a))
		for room := range int64(3) {
			for _, p := range []impl.Plan{sealPlan(), busyPlan(), viewPlan(), {}} {
				list := planned{p, a}
				for _, s := range append(someSwaps(), swap{0, a.Nodes[0].Head, -1, true, 2}) {
					first, told := s.of(list)
					want := cloneArena(first)
					scribble(wholeArena(first))
					if second, again := s.of(list); again != told || !sameArena(second, want) || list.p != p {
						t.Fatalf("%+v: another answer", s)
					}
					s.of(withRoom(list, room))
				}
				impl.RoomIn(p, a)
			}
		}
		if !reflect.DeepEqual(cloneArena(wholeArena(a)), whole) {
			t.Errorf("%+v was written into", a)
		}
	}
}

// Also an arena that is answered as it is shares nothing with the one that came in.
func TestSwapsShareNothing(t *testing.T) {
	for room := range int64(2) {
		for _, s := range someSwaps() {
			list := withRoom(planned{sealPlan(), roomy(sealArena())}, room)
			whole := cloneArena(wholeArena(list.a))
			first, _ := s.of(list)
			second, _ := s.of(list)
			want := cloneArena(second)
			checkApart(t, [][]int64{first.Slots, first.Guides}, 55)
			scribble(wholeArena(first))
			if !sameArena(second, want) || !sameArena(cloneArena(wholeArena(list.a)), whole) {
				t.Errorf("%+v: what is written into one answer is elsewhere", s)
			}
			scribble(wholeArena(list.a))
			if !sameArena(second, want) {
				t.Errorf("%+v: what is written into the argument is in the answer", s)
			}
		}
	}
}
