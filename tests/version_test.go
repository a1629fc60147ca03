package tests

import (
	"math"
	"reflect"
	"slices"
	"testing"

	"loop.example/g00715/impl"
)

func linkPlan() impl.Plan { return impl.Plan{Procs: 2, Nodes: 4, Vers: 12, Guides: 2} }

// linkArena has a long link (node 0: 9, 7, 5, 3, 0), whose Head and middle are not stamped, one of
// stamped versions alone (node 1: 8, 4, 1), one whose only version is stamped late (node 2: 6), and
// one that has no stamp at all (node 3: 10, 2).
func linkArena() impl.Arena {
	a := impl.BlankArena(linkPlan())
	a.Camera = 20
	a.Nodes = []impl.Node{{Key: -1, Head: 9}, {Key: 5, Value: 50, Head: 8}, {Key: 7, Head: 6}, {Key: 9, Value: 9, Head: 10}}
	a.Vers = []impl.Ver{
		{Next: -1, Prev: -1},
		{Next: 2, Stamp: 0, Prev: -1},
		{Next: -1, Stamp: -1, Prev: -1},
		{Next: 1, Stamp: 4, Prev: 0, Kind: impl.VrPut},
		{Next: 3, Stamp: 6, Prev: 1},
		{Next: 2, Stamp: -1, Prev: 3},
		{Next: 3, Stamp: 15, Prev: -1, Kind: impl.VrPut},
		{Next: 1, Stamp: 9, Prev: 5},
		{Next: 2, Gone: true, Stamp: 20, Prev: 4, Kind: impl.VrDel},
		{Next: 3, Stamp: -1, Prev: 7},
		{Next: -1, Gone: true, Stamp: -1, Prev: 2, Kind: impl.VrDel},
	}
	return a
}

// someStamps are all there may be, some round them, and those that are far out.
func someStamps() []int64 {
	list := append(farOut(), math.MinInt32, math.MaxInt32)
	for stamp := int64(-4); stamp <= 104; stamp++ {
		list = append(list, stamp)
	}
	slices.Sort(list)
	return list
}

// slowVersions go down from the newest version there is, by number, and take what the link has come to.
func slowVersions(a impl.Arena, n int64) []int64 {
	list := []int64{}
	wanted := a.Nodes[n].Head
	for v := int64(len(a.Vers)) - 1; v >= 0; v-- {
		if v == wanted {
			list = append(list, v)
			wanted = a.Vers[v].Prev
		}
	}
	return list
}

// slowVersionAt goes from the oldest one on and keeps the last that fits.
func slowVersionAt(a impl.Arena, n int64, stamp int64) int64 {
	fits := int64(-1)
	for _, v := range slices.Backward(slowVersions(a, n)) {
		if s := a.Vers[v].Stamp; s >= 0 && s <= stamp {
			fits = v
		}
	}
	return fits
}

// eachSmallLink gives every arena of the head alone and of four versions, by their Prevs, their Stamps from -1 to 2, and the Head.
func eachSmallLink(check func(p impl.Plan, a impl.Arena)) {
	p := impl.Plan{Procs: 1, Nodes: 1, Vers: 4, Guides: 1}
	for prevs := range int64(24) {
		for stamps := range int64(256) {
			for head := range int64(4) {
				a := impl.BlankArena(p)
				a.Camera = 2
				a.Nodes[0].Head = head
				a.Vers = make([]impl.Ver, 4)
				left := prevs
				for i := range int64(4) {
					a.Vers[i] = impl.Ver{Next: -1, Stamp: stamps>>(2*i)&3 - 1, Prev: left%(i+1) - 1}
					left /= i + 1
				}
				check(p, a)
			}
		}
	}
}

type planned struct {
	p impl.Plan
	a impl.Arena
}

func rightArenas() []planned {
	p := impl.Plan{Procs: 1, Nodes: 60, Vers: 400, Guides: 1}
	aged := fullArena(p)
	aged.Camera = 100
	for i := range aged.Vers {
		aged.Vers[i].Stamp = int64(i / 4)
	}
	for i := range aged.Nodes {
		aged.Nodes[i].Head = int64(399 - 5*i)
	}
	// Stamps that go up and down from version to version are right as well.
	mixed := cloneArena(aged)
	for i := range mixed.Vers {
		mixed.Vers[i].Stamp = int64(i)*37%102 - 1
		mixed.Vers[i].Prev = max(int64(i)-1-int64(i)*7%11, -1)
	}
	list := []planned{{busyPlan(), busyArena()}, {linkPlan(), linkArena()}, {p, aged}, {p, mixed}, {p, fullArena(p)}}
	for _, p := range rightPlans() {
		list = append(list, planned{p, impl.BlankArena(p)})
	}
	return list
}

func checkSameVersions(t *testing.T, p impl.Plan, a impl.Arena, stamps []int64) {
	t.Helper()
	if !impl.ArenaOk(p, a) {
		t.Fatalf("%+v is refused", a)
	}
	for n := range int64(len(a.Nodes)) {
		if got := impl.VersionNow(p, a, n); got != a.Nodes[n].Head {
			t.Fatalf("%+v: node %d has now %d", a, n, got)
		}
		want := slowVersions(a, n)
		if got := impl.VersionsOf(p, a, n); !slices.Equal(got, want) {
			t.Fatalf("%+v: node %d has %v, not %v", a, n, got, want)
		}
		if got := impl.DepthOf(p, a, n); got != int64(len(want)) {
			t.Fatalf("%+v: node %d is %d deep, not %d", a, n, got, len(want))
		}
		for _, stamp := range stamps {
			if got, want := impl.VersionAt(p, a, n, stamp), slowVersionAt(a, n, stamp); got != want {
				t.Fatalf("%+v: node %d at %d is %d, not %d", a, n, stamp, got, want)
			}
		}
	}
}

// checkLaterIsNewer takes rising stamps, and no version (-1) for older than each: that of one stamp against that of every later one.
func checkLaterIsNewer(t *testing.T, p impl.Plan, a impl.Arena, stamps []int64) {
	t.Helper()
	for n := range int64(len(a.Nodes)) {
		was := make([]int64, len(stamps))
		for i, stamp := range stamps {
			was[i] = impl.VersionAt(p, a, n, stamp)
			for j := range i {
				if was[j] > was[i] {
					t.Fatalf("%+v: node %d at %d is %d, at %d it is %d", a, n, stamps[j], was[j], stamp, was[i])
				}
			}
		}
		if last := was[len(stamps)-1]; last > impl.VersionNow(p, a, n) {
			t.Fatalf("%+v: node %d was %d, newer than now", a, n, last)
		}
	}
}

// Promise 3.
func TestVersionAtALaterStampIsNewer(t *testing.T) {
	for _, each := range rightArenas() {
		checkLaterIsNewer(t, each.p, each.a, someStamps())
	}
	eachSmallLink(func(p impl.Plan, a impl.Arena) {
		checkLaterIsNewer(t, p, a, []int64{-2, -1, 0, 1, 2, 3})
	})
}

func TestVersionsAsTheyWereMade(t *testing.T) {
	for _, each := range rightArenas() {
		checkSameVersions(t, each.p, each.a, someStamps())
	}
	eachSmallLink(func(p impl.Plan, a impl.Arena) {
		checkSameVersions(t, p, a, []int64{math.MinInt64, -2, -1, 0, 1, 2, 3, math.MaxInt64})
	})
}

func TestVersionNow(t *testing.T) {
	for n, want := range []int64{9, 8, 6, 10} {
		if got := impl.VersionNow(linkPlan(), linkArena(), int64(n)); got != want {
			t.Errorf("node %d: %d", n, got)
		}
	}
	a := linkArena()
	for head := range int64(len(a.Vers)) {
		a.Nodes[2].Head = head
		if got := impl.VersionNow(linkPlan(), a, 2); got != head {
			t.Errorf("the Head is %d: %d", head, got)
		}
	}
}

func TestVersionAtRoundEachStamp(t *testing.T) {
	for _, c := range []struct{ node, stamp, want int64 }{
		{0, -1, -1}, {0, 0, 0}, {0, 1, 0}, {0, 3, 0}, {0, 4, 3}, {0, 5, 3}, {0, 8, 3}, {0, 9, 7}, {0, 10, 7}, {0, 20, 7}, {0, 100, 7}, {0, 101, 7},
		{1, -1, -1}, {1, 0, 1}, {1, 5, 1}, {1, 6, 4}, {1, 7, 4}, {1, 19, 4}, {1, 20, 8}, {1, 21, 8}, {1, 100, 8},
		{2, -1, -1}, {2, 0, -1}, {2, 14, -1}, {2, 15, 6}, {2, 16, 6},
		{3, -1, -1}, {3, 0, -1}, {3, 20, -1}, {3, 100, -1},
		{0, math.MaxInt64, 7}, {1, math.MaxInt64, 8}, {2, math.MaxInt64, 6}, {3, math.MaxInt64, -1},
		{0, math.MinInt64, -1}, {1, math.MinInt64, -1}, {2, math.MinInt64, -1}, {3, math.MinInt64, -1},
		{0, -2, -1}, {1, -2, -1}, {2, -2, -1}, {3, -2, -1}, {0, 1 << 32, 7}, {0, -1 << 32, -1},
	} {
		if got := impl.VersionAt(linkPlan(), linkArena(), c.node, c.stamp); got != c.want {
			t.Errorf("node %d at %d: %d, not %d", c.node, c.stamp, got, c.want)
		}
	}
}

func TestVersionAtPassesByWhatIsNotStamped(t *testing.T) {
	p := linkPlan()
	for _, stamp := range someStamps() {
		a := linkArena()
		if got := impl.VersionAt(p, a, 0, stamp); got == 9 || got == 5 {
			t.Errorf("at %d: the version %d, which is not stamped", stamp, got)
		}
		a.Nodes[0].Head = 7
		if impl.VersionAt(p, a, 0, stamp) != impl.VersionAt(p, linkArena(), 0, stamp) {
			t.Errorf("at %d: a Head that is not stamped makes a difference", stamp)
		}
	}
	a := linkArena()
	a.Vers[9].Stamp = 12
	if impl.VersionAt(p, a, 0, 11) != 7 || impl.VersionAt(p, a, 0, 12) != 9 || impl.VersionAt(p, a, 0, 13) != 9 {
		t.Error("a Head that is stamped now is passed by")
	}
}

func TestVersionsOf(t *testing.T) {
	for n, want := range [][]int64{{9, 7, 5, 3, 0}, {8, 4, 1}, {6}, {10, 2}} {
		if got := impl.VersionsOf(linkPlan(), linkArena(), int64(n)); !slices.Equal(got, want) {
			t.Errorf("node %d: %v", n, got)
		}
		if got := impl.DepthOf(linkPlan(), linkArena(), int64(n)); got != int64(len(want)) {
			t.Errorf("node %d: %d deep", n, got)
		}
	}
	p := impl.Plan{Procs: 1, Nodes: 1, Vers: 400, Guides: 1}
	a := fullArena(p)
	a.Nodes[0].Head = 399
	list := impl.VersionsOf(p, a, 0)
	for i, v := range list {
		if v != int64(399-i) {
			t.Fatal(i, v)
		}
	}
	if len(list) != 400 || impl.DepthOf(p, a, 0) != 400 {
		t.Error("as many versions as there may be:", len(list))
	}
}

func TestVersionsThatAreCutOff(t *testing.T) {
	p := linkPlan()
	a := linkArena()
	a.Vers[5].Prev = -1
	if got := impl.VersionsOf(p, a, 0); !slices.Equal(got, []int64{9, 7, 5}) || impl.DepthOf(p, a, 0) != 3 {
		t.Error("behind a version that is cut off:", got)
	}
	if impl.VersionAt(p, a, 0, 8) != -1 || impl.VersionAt(p, a, 0, 9) != 7 {
		t.Error("what is cut off is found")
	}
	a.Vers[9].Prev = -1
	if got := impl.VersionsOf(p, a, 0); !slices.Equal(got, []int64{9}) || impl.DepthOf(p, a, 0) != 1 {
		t.Error("the Head alone:", got)
	}
	if impl.VersionAt(p, a, 0, 100) != -1 || impl.VersionNow(p, a, 0) != 9 {
		t.Error("the Head alone, not stamped")
	}
}

func checkNoVersion(t *testing.T, p impl.Plan, a impl.Arena, n int64, why string) {
	t.Helper()
	if got := impl.VersionNow(p, a, n); got != -1 {
		t.Errorf("%s: VersionNow of node %d is %d", why, n, got)
	}
	for _, stamp := range []int64{math.MinInt64, -1, 0, 7, 100, math.MaxInt64} {
		if got := impl.VersionAt(p, a, n, stamp); got != -1 {
			t.Errorf("%s: VersionAt of node %d at %d is %d", why, n, stamp, got)
		}
	}
	if got := impl.VersionsOf(p, a, n); len(got) != 0 {
		t.Errorf("%s: VersionsOf of node %d are %v", why, n, got)
	}
	if got := impl.DepthOf(p, a, n); got != -1 {
		t.Errorf("%s: DepthOf of node %d is %d", why, n, got)
	}
}

func TestVersionsOfWrongNodes(t *testing.T) {
	for _, each := range rightArenas() {
		nodes := int64(len(each.a.Nodes))
		if impl.VersionNow(each.p, each.a, nodes-1) < 0 || impl.DepthOf(each.p, each.a, nodes-1) < 1 {
			t.Errorf("%+v: the last node has no version", each.p)
		}
		for _, n := range append(farOut(), nodes, nodes+1, math.MinInt32, math.MaxInt32) {
			checkNoVersion(t, each.p, each.a, n, "no such node")
		}
	}
}

func TestVersionsOfWrongPlans(t *testing.T) {
	for _, p := range wrongPlans() {
		for _, a := range []impl.Arena{{}, busyArena(), linkArena(), impl.BlankArena(linkPlan())} {
			for n := int64(-1); n <= 4; n++ {
				checkNoVersion(t, p, a, n, "a wrong plan")
			}
		}
	}
	checkNoVersion(t, busyPlan(), linkArena(), 0, "another one's plan")
	checkNoVersion(t, impl.Plan{Procs: 2, Nodes: 3, Vers: 12, Guides: 2}, linkArena(), 0, "a node too many")
	checkNoVersion(t, impl.Plan{Procs: 2, Nodes: 4, Vers: 10, Guides: 2}, linkArena(), 0, "a version too many")
}

func TestVersionsOfWrongArenas(t *testing.T) {
	for _, each := range []planned{{busyPlan(), busyArena()}, {linkPlan(), linkArena()}} {
		eachWrongNumber(each.a, func(a impl.Arena, name string) {
			for n := range int64(len(a.Nodes)) {
				checkNoVersion(t, each.p, a, n, name)
			}
		})
	}
	for _, camera := range []int64{math.MinInt64, -1, 19, 101, math.MaxInt64} {
		a := linkArena()
		a.Camera = camera
		checkNoVersion(t, linkPlan(), a, 0, "a wrong camera")
	}
	for n := range int64(2) {
		checkNoVersion(t, linkPlan(), impl.Arena{}, n, "the zero arena")
		checkNoVersion(t, impl.Plan{}, impl.Arena{}, n, "nothing at all")
	}
}

// A Prev that comes back to where it was must not be followed for ever.
func TestVersionsOfARoundLink(t *testing.T) {
	a := linkArena()
	a.Vers[0].Prev = 9
	checkNoVersion(t, linkPlan(), a, 0, "a link that goes round")
	a = linkArena()
	a.Vers[6].Prev = 6
	checkNoVersion(t, linkPlan(), a, 2, "a version that came after itself")
}

func askVersions(p impl.Plan, a impl.Arena) {
	for n := int64(-1); n <= 6; n++ {
		impl.VersionNow(p, a, n)
		impl.VersionsOf(p, a, n)
		impl.DepthOf(p, a, n)
		for _, stamp := range []int64{-1, 0, 4, 100, math.MaxInt64} {
			impl.VersionAt(p, a, n, stamp)
		}
	}
}

func TestVersionArgumentsStay(t *testing.T) {
	wrong := linkArena()
	wrong.Vers[2].Next = 0
	for _, a := range []impl.Arena{linkArena(), busyArena(), impl.BlankArena(linkPlan()), fullArena(linkPlan()), wrong} {
		a = roomy(a)
		whole := cloneArena(wholeArena(a))
		for _, p := range []impl.Plan{linkPlan(), busyPlan(), {}} {
			askVersions(p, a)
		}
		if !reflect.DeepEqual(cloneArena(wholeArena(a)), whole) {
			t.Errorf("%+v was written into", a)
		}
	}
}

func TestVersionsOfShareNothing(t *testing.T) {
	p, a := linkPlan(), roomy(linkArena())
	whole := cloneArena(wholeArena(a))
	var lists [][]int64
	for range 2 {
		for n := int64(-1); n <= 4; n++ {
			lists = append(lists, impl.VersionsOf(p, a, n))
		}
	}
	checkApart(t, lists, 55)
	if !reflect.DeepEqual(cloneArena(wholeArena(a)), whole) {
		t.Error("what is written into an answer is in the arena")
	}
	if got := impl.VersionsOf(p, a, 0); !slices.Equal(got, []int64{9, 7, 5, 3, 0}) {
		t.Error("what is written into an answer is in the next one:", got)
	}
	list := impl.VersionsOf(p, a, 1)
	scribble(wholeArena(a))
	if !slices.Equal(list, []int64{8, 4, 1}) {
		t.Error("what is written into the arena is in an answer:", list)
	}
}
