package tests

import (
	"fmt"
	"math"
	"reflect"
	"slices"
	"testing"

	"loop.example/g00715/impl"
)

func busyPlan() impl.Plan { return impl.Plan{Procs: 3, Nodes: 6, Vers: 9, Guides: 3} }

// busyArena is right by busyPlan, and has some of all: slots and none, guides, gone nodes, stamps and none, old versions.
func busyArena() impl.Arena {
	return impl.Arena{
		Camera: 7,
		Slots:  []int64{3, -1, 7},
		Guides: []int64{0, 2, 3},
		Nodes:  []impl.Node{{Key: -1, Head: 4}, {Key: 5, Value: 50, Head: 5}, {Key: 9, Value: 9999, Head: 2}, {Key: 63, Head: 3}},
		Vers: []impl.Ver{
			{Next: -1, Prev: -1},
			{Next: 2, Prev: -1},
			{Next: 3, Prev: -1},
			{Next: -1, Prev: -1},
			{Next: 1, Stamp: 4, Prev: 0, Kind: impl.VrPut},
			{Next: 2, Gone: true, Stamp: 7, Prev: 1, Kind: impl.VrDel},
			{Next: -1, Stamp: -1, Prev: 4, Kind: impl.VrNone},
		},
	}
}

// fullArena has as many nodes and versions as the plan allows.
func fullArena(p impl.Plan) impl.Arena {
	a := impl.BlankArena(p)
	for n := int64(1); n < p.Nodes; n++ {
		a.Nodes = append(a.Nodes, impl.Node{Key: n, Value: n, Head: n % p.Vers})
	}
	for v := int64(1); v < p.Vers; v++ {
		a.Vers = append(a.Vers, impl.Ver{Next: -1, Stamp: -1, Prev: v - 1, Kind: v % 3})
	}
	return a
}

func cloneArena(a impl.Arena) impl.Arena {
	a.Slots, a.Guides = slices.Clone(a.Slots), slices.Clone(a.Guides)
	a.Nodes, a.Vers = slices.Clone(a.Nodes), slices.Clone(a.Vers)
	return a
}

// sameArena takes an empty list and nil for the same, as the document does.
func sameArena(a impl.Arena, b impl.Arena) bool {
	return a.Camera == b.Camera && slices.Equal(a.Slots, b.Slots) && slices.Equal(a.Guides, b.Guides) &&
		slices.Equal(a.Nodes, b.Nodes) && slices.Equal(a.Vers, b.Vers)
}

// roomy is a with spare room behind each list, filled with what would not be there by chance.
func roomy(a impl.Arena) impl.Arena {
	a.Slots = append(slices.Clone(a.Slots), 77, 77, 77)[:len(a.Slots)]
	a.Guides = append(slices.Clone(a.Guides), 77, 77, 77)[:len(a.Guides)]
	a.Nodes = append(slices.Clone(a.Nodes), impl.Node{Key: 77}, impl.Node{Key: 77})[:len(a.Nodes)]
	a.Vers = append(slices.Clone(a.Vers), impl.Ver{Next: 77}, impl.Ver{Next: 77})[:len(a.Vers)]
	return a
}

// wholeArena is a with all the spare room of its lists made part of them.
func wholeArena(a impl.Arena) impl.Arena {
	a.Slots, a.Guides = a.Slots[:cap(a.Slots)], a.Guides[:cap(a.Guides)]
	a.Nodes, a.Vers = a.Nodes[:cap(a.Nodes)], a.Vers[:cap(a.Vers)]
	return a
}

// arenaPlace is one number of an arena, and which values of it are right while all else stays.
type arenaPlace struct {
	name string
	at   func(a *impl.Arena) *int64
	fits func(n int64) bool
}

func fromTo(least int64, most int64) func(int64) bool {
	return func(n int64) bool { return n >= least && n <= most }
}

// arenaPlaces are all numbers of a but its Camera, on which the stamps hang.
func arenaPlaces(a impl.Arena) []arenaPlace {
	var list []arenaPlace
	add := func(at func(a *impl.Arena) *int64, fits func(int64) bool, name string, i int) {
		list = append(list, arenaPlace{fmt.Sprint(name, " of ", i), at, fits})
	}
	nodes, vers := int64(len(a.Nodes)), int64(len(a.Vers))
	for i := range a.Slots {
		add(func(a *impl.Arena) *int64 { return &a.Slots[i] }, fromTo(-1, 100), "slot", i)
	}
	for i := range a.Guides {
		add(func(a *impl.Arena) *int64 { return &a.Guides[i] }, fromTo(0, nodes-1), "guide", i)
	}
	for i := range a.Nodes {
		key, value := fromTo(0, 63), fromTo(0, 9999)
		if i == 0 {
			key, value = fromTo(-1, -1), fromTo(0, 0)
		}
		add(func(a *impl.Arena) *int64 { return &a.Nodes[i].Key }, key, "Key", i)
		add(func(a *impl.Arena) *int64 { return &a.Nodes[i].Value }, value, "Value", i)
		add(func(a *impl.Arena) *int64 { return &a.Nodes[i].Head }, fromTo(0, vers-1), "Head", i)
	}
	for i := range a.Vers {
		next := func(n int64) bool { return n == -1 || n >= 1 && n < nodes }
		add(func(a *impl.Arena) *int64 { return &a.Vers[i].Next }, next, "Next", i)
		add(func(a *impl.Arena) *int64 { return &a.Vers[i].Stamp }, fromTo(-1, a.Camera), "Stamp", i)
		add(func(a *impl.Arena) *int64 { return &a.Vers[i].Prev }, fromTo(-1, int64(i)-1), "Prev", i)
		add(func(a *impl.Arena) *int64 { return &a.Vers[i].Kind }, fromTo(0, 2), "Kind", i)
	}
	return list
}

// eachWrongNumber gives a with one of its numbers wrong, for each of them, and the name of that one.
func eachWrongNumber(a impl.Arena, check func(wrong impl.Arena, name string)) {
	for _, place := range arenaPlaces(a) {
		for _, number := range append(farOut(), 0, 1, 12, 101, 10000) {
			if place.fits(number) {
				continue
			}
			wrong := cloneArena(a)
			*place.at(&wrong) = number
			check(wrong, place.name)
		}
	}
}

// checkApart writes into each list, and into the room behind it, and looks at all others.
func checkApart[T comparable](t *testing.T, lists [][]T, mark T) {
	t.Helper()
	for i, list := range lists {
		var others [][]T
		for _, other := range lists[i+1:] {
			others = append(others, slices.Clone(other))
		}
		for j := range list[:cap(list)] {
			list[:cap(list)][j] = mark
		}
		for j, other := range lists[i+1:] {
			if !slices.Equal(other, others[j]) {
				t.Errorf("what is written into the list %d is in the list %d", i, i+1+j)
			}
		}
	}
}

// manyNumbers are all small ones, those round each limit, and those that are far out.
func manyNumbers() []int64 {
	list := append(farOut(), 398, 399, 400, 9998, 9999, 10000, 10001, 19999, 20000, 20001, 999999, 1000000, 1000001)
	for n := int64(-4); n <= 104; n++ {
		list = append(list, n)
	}
	return list
}

func TestKindsAreTheDocuments(t *testing.T) {
	if got := [3]int64{impl.VrNone, impl.VrPut, impl.VrDel}; got != [3]int64{0, 1, 2} {
		t.Fatal(got)
	}
}

// Promise 2.
func TestBlankArenaIsRightAndEmpty(t *testing.T) {
	for _, vers := range []int64{1, 2, impl.MaxVers} {
		for _, nodes := range []int64{1, 2, impl.MaxNodes} {
			for procs := int64(1); procs <= impl.MaxProcs; procs++ {
				for guides := int64(1); guides <= impl.MaxGuides; guides++ {
					checkBlank(t, impl.Plan{Procs: procs, Nodes: nodes, Vers: vers, Guides: guides})
				}
			}
		}
	}
}

func checkBlank(t *testing.T, p impl.Plan) {
	t.Helper()
	a := impl.BlankArena(p)
	want := impl.Arena{
		Nodes: []impl.Node{{Key: -1, Value: 0, Head: 0}},
		Vers:  []impl.Ver{{Next: -1, Gone: false, Stamp: 0, Prev: -1, Kind: 0}},
	}
	for range p.Procs {
		want.Slots = append(want.Slots, -1)
	}
	for range p.Guides {
		want.Guides = append(want.Guides, 0)
	}
	if !sameArena(a, want) {
		t.Fatalf("%+v: %+v", p, a)
	}
	if !impl.ArenaOk(p, a) {
		t.Fatalf("%+v: a blank arena is refused", p)
	}
	if a.Vers[a.Nodes[0].Head].Next != -1 {
		t.Fatalf("%+v: something comes behind the head", p)
	}
}

func TestBlankArenaOfWrongPlans(t *testing.T) {
	for _, p := range wrongPlans() {
		if a := impl.BlankArena(p); !sameArena(a, impl.Arena{}) {
			t.Errorf("%+v: %+v", p, a)
		}
	}
}

func TestBusyAndFullArenasAreRight(t *testing.T) {
	if !impl.ArenaOk(busyPlan(), busyArena()) {
		t.Error("a busy arena is refused")
	}
	for _, p := range append(rightPlans(), busyPlan()) {
		if !impl.ArenaOk(p, fullArena(p)) {
			t.Errorf("%+v: a full arena is refused", p)
		}
	}
}

func TestArenaOkNumberByNumber(t *testing.T) {
	p, right := busyPlan(), busyArena()
	for _, place := range arenaPlaces(right) {
		for _, n := range manyNumbers() {
			a := cloneArena(right)
			*place.at(&a) = n
			if got := impl.ArenaOk(p, a); got != place.fits(n) {
				t.Errorf("%s is %d: %v", place.name, n, got)
			}
		}
	}
}

func TestArenaOkOfTheCamera(t *testing.T) {
	p := busyPlan()
	for _, n := range manyNumbers() {
		a := impl.BlankArena(p)
		a.Camera = n
		if want := n >= 0 && n <= 100; impl.ArenaOk(p, a) != want {
			t.Errorf("Camera is %d: not %v", n, want)
		}
		a = busyArena()
		a.Camera = n
		if want := n >= 7 && n <= 100; impl.ArenaOk(p, a) != want {
			t.Errorf("Camera is %d, a Stamp is 7: not %v", n, want)
		}
	}
	a := impl.BlankArena(p)
	for a.Camera = 0; a.Camera <= 100; a.Camera++ {
		for stamp := int64(-3); stamp <= 103; stamp++ {
			a.Vers[0].Stamp = stamp
			if want := stamp >= -1 && stamp <= a.Camera; impl.ArenaOk(p, a) != want {
				t.Fatalf("Camera is %d, a Stamp is %d: not %v", a.Camera, stamp, want)
			}
		}
	}
}

func TestArenaOkOfGone(t *testing.T) {
	p := busyPlan()
	for i := range busyArena().Vers {
		for _, gone := range []bool{false, true} {
			a := busyArena()
			a.Vers[i].Gone = gone
			if !impl.ArenaOk(p, a) {
				t.Errorf("version %d is refused where Gone is %v", i, gone)
			}
		}
	}
}

func TestArenaOkByHowManyThereAre(t *testing.T) {
	p := impl.Plan{Procs: 3, Nodes: 5, Vers: 8, Guides: 4}
	for n := 0; n <= 12; n++ {
		a := fullArena(p)
		a.Slots = make([]int64, n)
		if want := n == 3; impl.ArenaOk(p, a) != want {
			t.Errorf("%d slots: not %v", n, want)
		}
		a = fullArena(p)
		a.Guides = make([]int64, n)
		if want := n == 4; impl.ArenaOk(p, a) != want {
			t.Errorf("%d guides: not %v", n, want)
		}
		a = impl.BlankArena(p)
		a.Nodes = append(a.Nodes, make([]impl.Node, 20)...)[:n]
		if want := n >= 1 && n <= 5; impl.ArenaOk(p, a) != want {
			t.Errorf("%d nodes: not %v", n, want)
		}
		a = impl.BlankArena(p)
		for range 20 {
			a.Vers = append(a.Vers, impl.Ver{Next: -1, Prev: -1})
		}
		a.Vers = a.Vers[:n]
		if want := n >= 1 && n <= 8; impl.ArenaOk(p, a) != want {
			t.Errorf("%d versions: not %v", n, want)
		}
	}
}

func TestArenaOkOfFullPlansPassedByOne(t *testing.T) {
	for _, p := range rightPlans() {
		a := fullArena(p)
		a.Nodes = append(a.Nodes, impl.Node{Key: 1})
		if impl.ArenaOk(p, a) {
			t.Errorf("%+v: a node too many is accepted", p)
		}
		a = fullArena(p)
		a.Vers = append(a.Vers, impl.Ver{Next: -1, Prev: -1})
		if impl.ArenaOk(p, a) {
			t.Errorf("%+v: a version too many is accepted", p)
		}
	}
}

func TestArenaOkOfWrongPlans(t *testing.T) {
	for _, p := range wrongPlans() {
		for _, a := range []impl.Arena{{}, busyArena(), impl.BlankArena(busyPlan()), fullArena(busyPlan())} {
			if impl.ArenaOk(p, a) {
				t.Errorf("%+v: %+v is accepted", p, a)
			}
		}
		if p.Procs >= 0 && p.Procs < 20 && p.Guides >= 0 && p.Guides < 20 {
			a := impl.BlankArena(impl.Plan{Procs: 1, Nodes: 1, Vers: 1, Guides: 1})
			a.Slots, a.Guides = make([]int64, p.Procs), make([]int64, p.Guides)
			if impl.ArenaOk(p, a) {
				t.Errorf("%+v: an arena of its size is accepted", p)
			}
		}
	}
}

// A plan of another size than the arena's.
func TestArenaOkOfOtherPlans(t *testing.T) {
	for field, have := range [4]int64{3, 6, 9, 3} {
		for n := int64(1); n <= 8; n++ {
			p := withField(busyPlan(), field, n)
			want := n == have || field == 1 && n >= 4 || field == 2 && n >= 7
			if impl.ArenaOk(p, busyArena()) != want {
				t.Errorf("%+v: not %v", p, want)
			}
		}
	}
}

func TestArenaOkOfEmptyAndNil(t *testing.T) {
	p := impl.Plan{Procs: 1, Nodes: 1, Vers: 1, Guides: 1}
	empty := impl.Arena{Slots: []int64{}, Guides: []int64{}, Nodes: []impl.Node{}, Vers: []impl.Ver{}}
	for _, a := range []impl.Arena{{}, empty} {
		if impl.ArenaOk(p, a) || impl.ArenaOk(impl.Plan{}, a) {
			t.Errorf("%+v is accepted", a)
		}
	}
	for i := range 8 {
		a := impl.BlankArena(p)
		switch i {
		case 0:
			a.Slots = nil
		case 1:
			a.Slots = []int64{}
		case 2:
			a.Guides = nil
		case 3:
			a.Guides = []int64{}
		case 4:
			a.Nodes = nil
		case 5:
			a.Nodes = []impl.Node{}
		case 6:
			a.Vers = nil
		default:
			a.Vers = []impl.Ver{}
		}
		if impl.ArenaOk(p, a) {
			t.Errorf("%d: %+v is accepted", i, a)
		}
	}
}

func TestArenaOkOfNumbersFarOut(t *testing.T) {
	p := impl.Plan{Procs: 1, Nodes: 2, Vers: 2, Guides: 1}
	for _, n := range append(farOut(), 10000) {
		a := impl.Arena{
			Camera: n, Slots: []int64{n}, Guides: []int64{n},
			Nodes: []impl.Node{{Key: n, Value: n, Head: n}, {Key: n, Value: n, Head: n}},
			Vers:  []impl.Ver{{Next: n, Gone: true, Stamp: n, Prev: n, Kind: n}, {Next: n, Stamp: n, Prev: n, Kind: n}},
		}
		if impl.ArenaOk(p, a) {
			t.Errorf("an arena full of %d is accepted", n)
		}
	}
}

func TestStamped(t *testing.T) {
	a := busyArena()
	for v := int64(-3); v <= 12; v++ {
		if want := v >= 0 && v <= 5; impl.Stamped(a, v) != want {
			t.Errorf("version %d: not %v", v, want)
		}
	}
	last := int64(len(a.Vers) - 1)
	for _, stamp := range []int64{0, 1, 7, 100} {
		a.Vers[last].Stamp = stamp
		if !impl.Stamped(a, last) || impl.Stamped(a, last+1) {
			t.Errorf("the last version is stamped with %d, but not taken so", stamp)
		}
	}
	a.Vers[last].Stamp = -1
	if impl.Stamped(a, last) || impl.Stamped(a, -1) {
		t.Error("a version without a stamp is taken for stamped")
	}
}

// No plan is given with Stamped: it asks for nothing but the version and its stamp.
func TestStampedOfWrongArenas(t *testing.T) {
	for _, v := range append(farOut(), 0, 1, math.MaxInt32) {
		for _, a := range []impl.Arena{{}, {Vers: []impl.Ver{}}, {Camera: v, Slots: []int64{v}, Nodes: []impl.Node{{Head: v}}}} {
			if impl.Stamped(a, v) {
				t.Errorf("%+v has a version %d", a, v)
			}
		}
		if impl.Stamped(busyArena(), v) != (v == 0 || v == 1) {
			t.Errorf("a busy arena: version %d", v)
		}
		a := impl.Arena{Vers: []impl.Ver{{Stamp: v}}}
		if impl.Stamped(a, 0) != (v != -1) {
			t.Errorf("a Stamp of %d", v)
		}
	}
}

func TestBlankArenasShareNothing(t *testing.T) {
	p := busyPlan()
	first, second := impl.BlankArena(p), impl.BlankArena(p)
	want := cloneArena(second)
	scribble(wholeArena(first))
	if !sameArena(second, want) || !sameArena(impl.BlankArena(p), want) {
		t.Error("what is written into one blank arena is in another one")
	}
	third := impl.BlankArena(p)
	_ = append(third.Slots, 9)
	_ = append(third.Guides, 9)
	if !sameArena(third, want) {
		t.Error("two lists of one blank arena share room")
	}
}

func scribble(a impl.Arena) {
	for i := range a.Slots {
		a.Slots[i] = 55
	}
	for i := range a.Guides {
		a.Guides[i] = 55
	}
	for i := range a.Nodes {
		a.Nodes[i] = impl.Node{Key: 55, Value: 55, Head: 55}
	}
	for i := range a.Vers {
		a.Vers[i] = impl.Ver{Next: 55, Gone: true, Stamp: 55, Prev: 55, Kind: 55}
	}
}

func TestArenaArgumentsStay(t *testing.T) {
	wrong := busyArena()
	wrong.Vers[2].Next = 0
	for _, a := range []impl.Arena{busyArena(), impl.BlankArena(busyPlan()), fullArena(busyPlan()), wrong} {
		a = roomy(a)
		whole := cloneArena(wholeArena(a))
		for v := int64(-1); v <= 10; v++ {
			impl.Stamped(a, v)
		}
		impl.ArenaOk(busyPlan(), a)
		impl.ArenaOk(impl.Plan{}, a)
		if !reflect.DeepEqual(cloneArena(wholeArena(a)), whole) {
			t.Errorf("%+v was written into", a)
		}
	}
}
