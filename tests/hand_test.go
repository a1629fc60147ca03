package tests

import (
	"math"
	"reflect"
	"testing"

	"loop.example/g00715/impl"
)

// handPlace is one field of a Hand, with the least and the most that the document allows there.
type handPlace struct {
	name  string
	field func(h *impl.Hand) *int64
	least int64
	most  int64
}

// handPlaces are all fields as they stand; the limits are the document's own numbers, not the program's.
func handPlaces(p impl.Plan) []handPlace {
	nodes, vers := p.Nodes-1, p.Vers-1
	return []handPlace{
		{"At", func(h *impl.Hand) *int64 { return &h.At }, 0, 23},
		{"Then", func(h *impl.Hand) *int64 { return &h.Then }, 0, 7},
		{"Code", func(h *impl.Hand) *int64 { return &h.Code }, 0, 8},
		{"Key", func(h *impl.Hand) *int64 { return &h.Key }, -1, 63},
		{"Value", func(h *impl.Hand) *int64 { return &h.Value }, 0, 9999},
		{"Begin", func(h *impl.Hand) *int64 { return &h.Begin }, 0, 20000},
		{"Reply", func(h *impl.Hand) *int64 { return &h.Reply }, 0, 7},
		{"Out", func(h *impl.Hand) *int64 { return &h.Out }, 0, 1000000},
		{"Sum", func(h *impl.Hand) *int64 { return &h.Sum }, 0, 1000000},
		{"Held", func(h *impl.Hand) *int64 { return &h.Held }, -1, 100},
		{"X", func(h *impl.Hand) *int64 { return &h.X }, 0, nodes},
		{"Ver", func(h *impl.Hand) *int64 { return &h.Ver }, 0, vers},
		{"Cam", func(h *impl.Hand) *int64 { return &h.Cam }, 0, 100},
		{"CamAt", func(h *impl.Hand) *int64 { return &h.CamAt }, 0, 20000},
		{"Pred", func(h *impl.Hand) *int64 { return &h.Pred }, 0, nodes},
		{"PredVer", func(h *impl.Hand) *int64 { return &h.PredVer }, 0, vers},
		{"Curr", func(h *impl.Hand) *int64 { return &h.Curr }, -1, nodes},
		{"CurrVer", func(h *impl.Hand) *int64 { return &h.CurrVer }, 0, vers},
		{"New", func(h *impl.Hand) *int64 { return &h.New }, -1, nodes},
		{"Least", func(h *impl.Hand) *int64 { return &h.Least }, 0, 100},
		{"Index", func(h *impl.Hand) *int64 { return &h.Index }, 0, 60},
		{"Round", func(h *impl.Hand) *int64 { return &h.Round }, 0, 20000},
	}
}

// handPlans are the least and the greatest one, those whose Nodes and Vers are far apart, and some between.
func handPlans() []impl.Plan {
	return append(rightPlans(),
		impl.Plan{Procs: 2, Nodes: 10, Vers: 30, Guides: 4}, impl.Plan{Procs: 8, Nodes: 2, Vers: 3, Guides: 1},
		impl.Plan{Procs: 3, Nodes: 20, Vers: 80, Guides: 4}, impl.Plan{Procs: 1, Nodes: 59, Vers: 7, Guides: 8},
		impl.Plan{Procs: 5, Nodes: 7, Vers: 399, Guides: 2}, impl.Plan{Procs: 4, Nodes: 33, Vers: 33, Guides: 3})
}

// edgeHands are the lowest and the highest right hand of a plan.
func edgeHands(p impl.Plan) (impl.Hand, impl.Hand) {
	var low, high impl.Hand
	for _, place := range handPlaces(p) {
		*place.field(&low), *place.field(&high) = place.least, place.most
	}
	return low, high
}

// thrownHand is right in that plan.
func thrownHand(d *dice, p impl.Plan) impl.Hand {
	var h impl.Hand
	for _, place := range handPlaces(p) {
		*place.field(&h) = place.least + d.throw(place.most-place.least+1)
	}
	return h
}

// anyHand has thrown numbers in all fields: small ones, ones round the limits, and ones far out.
func anyHand(d *dice, p impl.Plan) impl.Hand {
	var h impl.Hand
	far := farOut()
	for _, place := range handPlaces(p) {
		switch d.throw(4) {
		case 0:
			*place.field(&h) = place.least - 2 + d.throw(5)
		case 1:
			*place.field(&h) = place.most - 2 + d.throw(5)
		case 2:
			*place.field(&h) = d.throw(2000001) - 1000000
		default:
			*place.field(&h) = far[d.throw(int64(len(far)))]
		}
	}
	return h
}

// slowHandOk holds each number against the document's, one by one, and does not stop at the first that is wrong.
func slowHandOk(p impl.Plan, h impl.Hand) bool {
	wrong := 0
	for _, place := range handPlaces(p) {
		if n := *place.field(&h); n < place.least || n > place.most {
			wrong++
		}
	}
	return wrong == 0 && impl.PlanOk(p)
}

func TestHandLimitsAreTheDocuments(t *testing.T) {
	if impl.MaxClock != 20000 || impl.MaxSum != 1000000 {
		t.Fatal(impl.MaxClock, impl.MaxSum)
	}
}

func TestStatesAreTheDocuments(t *testing.T) {
	at := []int64{impl.AtRest, impl.AtGuide, impl.AtHead, impl.AtStamp, impl.AtCam, impl.AtSeal, impl.AtUnlink, impl.AtMake,
		impl.AtAim, impl.AtLink, impl.AtPoint, impl.AtMark, impl.AtClean, impl.AtRead, impl.AtTell, impl.AtShot, impl.AtTick,
		impl.AtQuit, impl.AtClose, impl.AtBack, impl.AtLeast, impl.AtScan, impl.AtDown, impl.AtSnip}
	then := []int64{impl.ThNone, impl.ThStart, impl.ThWalk, impl.ThUnlinked, impl.ThLinked, impl.ThMarked, impl.ThOld, impl.ThTrim}
	reply := []int64{impl.RpNone, impl.RpNew, impl.RpOld, impl.RpNot, impl.RpOk, impl.RpFull, impl.RpTime, impl.RpBad}
	code := []int64{impl.OpNone, impl.OpPut, impl.OpDel, impl.OpGet, impl.OpSnap, impl.OpClose, impl.OpLook, impl.OpCount, impl.OpCut}
	for name, list := range map[string][]int64{"At": at, "Then": then, "Reply": reply, "Code": code} {
		for want, got := range list {
			if got != int64(want) {
				t.Errorf("%s: %d stands where %d should", name, got, want)
			}
		}
	}
	if len(at) != 24 || len(then) != 8 || len(reply) != 8 || len(code) != 9 {
		t.Error(len(at), len(then), len(reply), len(code))
	}
}

// What is tested below is tested of each field only if handPlaces has them all.
func TestHandHasItsFields(t *testing.T) {
	kind := reflect.TypeOf(impl.Hand{})
	places := handPlaces(busyPlan())
	if kind.NumField() != 22 || len(places) != 22 {
		t.Fatalf("%d fields, of which %d are tested", kind.NumField(), len(places))
	}
	var h impl.Hand
	for i, place := range places {
		field := kind.Field(i)
		if field.Name != place.name || field.Type.Kind() != reflect.Int64 || field.Anonymous {
			t.Errorf("%s %s stands where %s should", field.Name, field.Type, place.name)
		}
		*place.field(&h) = int64(i) + 1
	}
	for i := range places {
		if n := reflect.ValueOf(h).Field(i).Int(); n != int64(i)+1 {
			t.Errorf("field %d holds %d", i, n)
		}
	}
}

// aroundLimits are numbers in and out of the limits, each limit met and passed by one among them.
func aroundLimits(least int64, most int64) []int64 {
	list := append(farOut(), -3, -2, -1, 0, 1, 2, least-2, least-1, least, least+1, (least+most)/2, most-1, most, most+1, most+2,
		math.MinInt32, math.MaxInt32, 1<<32+least, 1<<32+most, math.MinInt64+most)
	if most-least <= impl.MaxVers {
		for n := least - 3; n <= most+3; n++ {
			list = append(list, n)
		}
	}
	return list
}

func TestHandOkFieldByField(t *testing.T) {
	for _, p := range handPlans() {
		low, high := edgeHands(p)
		for _, h := range []impl.Hand{low, high, impl.NewHand(), {}} {
			if !impl.HandOk(p, h) {
				t.Fatalf("%+v: %+v is refused", p, h)
			}
			for _, place := range handPlaces(p) {
				for _, n := range aroundLimits(place.least, place.most) {
					k := h
					*place.field(&k) = n
					if want := n >= place.least && n <= place.most; impl.HandOk(p, k) != want {
						t.Errorf("%+v: %s %d: not %v", p, place.name, n, want)
					}
				}
			}
		}
	}
}

// The same limits once more, written out, so that a slip in handPlaces does not pass for the document.
func TestHandOkAtTheEdges(t *testing.T) {
	p := impl.Plan{Procs: 2, Nodes: 10, Vers: 30, Guides: 4}
	for i, h := range []impl.Hand{{At: 23}, {Then: 7}, {Code: 8}, {Key: -1}, {Key: 63}, {Value: 9999}, {Begin: 20000}, {Reply: 7},
		{Out: 1000000}, {Sum: 1000000}, {Held: -1}, {Held: 100}, {X: 9}, {Ver: 29}, {Cam: 100}, {CamAt: 20000}, {Pred: 9},
		{PredVer: 29}, {Curr: -1}, {Curr: 9}, {CurrVer: 29}, {New: -1}, {New: 9}, {Least: 100}, {Index: 60}, {Round: 20000}} {
		if !impl.HandOk(p, h) {
			t.Errorf("right hand %d is refused: %+v", i, h)
		}
	}
	for i, h := range []impl.Hand{{At: 24}, {Then: 8}, {Code: 9}, {Key: -2}, {Key: 64}, {Value: 10000}, {Begin: 20001}, {Reply: 8},
		{Out: 1000001}, {Sum: 1000001}, {Held: -2}, {Held: 101}, {X: 10}, {Ver: 30}, {Cam: 101}, {CamAt: 20001}, {Pred: 10},
		{PredVer: 30}, {Curr: -2}, {Curr: 10}, {CurrVer: 30}, {New: -2}, {New: 10}, {Least: 101}, {Index: 61}, {Round: 20001},
		{At: -1}, {Then: -1}, {Code: -1}, {Value: -1}, {Begin: -1}, {Reply: -1}, {Out: -1}, {Sum: -1}, {X: -1}, {Ver: -1},
		{Cam: -1}, {CamAt: -1}, {Pred: -1}, {PredVer: -1}, {CurrVer: -1}, {Least: -1}, {Index: -1}, {Round: -1}} {
		if impl.HandOk(p, h) {
			t.Errorf("wrong hand %d is accepted: %+v", i, h)
		}
	}
}

func TestHandOkByThePlan(t *testing.T) {
	least := impl.Plan{Procs: 1, Nodes: 1, Vers: 1, Guides: 1}
	most := impl.Plan{Procs: 8, Nodes: 60, Vers: 400, Guides: 8}
	nodes := impl.Plan{Procs: 1, Nodes: 60, Vers: 1, Guides: 1}
	vers := impl.Plan{Procs: 1, Nodes: 1, Vers: 400, Guides: 1}
	others := impl.Plan{Procs: 8, Nodes: 1, Vers: 1, Guides: 8}
	for _, c := range []struct {
		p    impl.Plan
		node int64
		ver  int64
	}{{least, 0, 0}, {most, 59, 399}, {nodes, 59, 0}, {vers, 0, 399}, {others, 0, 0}} {
		for i, h := range []impl.Hand{{X: c.node}, {Pred: c.node}, {Curr: c.node}, {New: c.node}, {Ver: c.ver}, {PredVer: c.ver}, {CurrVer: c.ver}} {
			if !impl.HandOk(c.p, h) {
				t.Errorf("%+v: hand %d is refused", c.p, i)
			}
		}
		for i, h := range []impl.Hand{{X: c.node + 1}, {Pred: c.node + 1}, {Curr: c.node + 1}, {New: c.node + 1}, {Ver: c.ver + 1}, {PredVer: c.ver + 1}, {CurrVer: c.ver + 1}} {
			if impl.HandOk(c.p, h) {
				t.Errorf("%+v: hand %d is accepted", c.p, i)
			}
		}
		if !impl.HandOk(c.p, impl.Hand{Index: 60}) || impl.HandOk(c.p, impl.Hand{Index: 61}) {
			t.Errorf("%+v: the Index hangs on the plan", c.p)
		}
	}
}

// Each field is wrong once with each other one: two wrongs must not make a right.
func TestHandOkOfTwoWrongFields(t *testing.T) {
	p := linkPlan()
	for i, one := range handPlaces(p) {
		for j, other := range handPlaces(p) {
			h := impl.NewHand()
			*one.field(&h) = one.least - 1
			if i != j {
				*other.field(&h) = other.most + 1
			}
			if impl.HandOk(p, h) {
				t.Errorf("wrong %s and %s are accepted", one.name, other.name)
			}
		}
	}
}

func TestHandOkOfThrownHands(t *testing.T) {
	d := &dice{state: 5}
	plans := handPlans()
	for range 20000 {
		p := plans[d.throw(int64(len(plans)))]
		h := thrownHand(d, p)
		if !impl.HandOk(p, h) {
			t.Fatalf("%+v: %+v is refused", p, h)
		}
		other := plans[d.throw(int64(len(plans)))]
		if want := slowHandOk(other, h); impl.HandOk(other, h) != want {
			t.Fatalf("%+v: %+v: not %v", other, h, want)
		}
		k := anyHand(d, p)
		if want := slowHandOk(p, k); impl.HandOk(p, k) != want {
			t.Fatalf("%+v: %+v: not %v", p, k, want)
		}
	}
}

func TestHandOkOfWrongPlans(t *testing.T) {
	d := &dice{state: 55}
	for _, p := range wrongPlans() {
		low, high := edgeHands(impl.Plan{Procs: 1, Nodes: 1, Vers: 1, Guides: 1})
		for _, h := range []impl.Hand{{}, impl.NewHand(), low, high, thrownHand(d, busyPlan()), anyHand(d, busyPlan()),
			{X: p.Nodes, Ver: p.Vers}, {X: p.Nodes - 1, Ver: p.Vers - 1}} {
			if impl.HandOk(p, h) {
				t.Errorf("%+v: %+v is accepted", p, h)
			}
		}
	}
}

// checkNewHand asks for each field by itself: all is as in a new hand, but for what is kept, by name.
func checkNewHand(t *testing.T, h impl.Hand, kept map[string]int64) {
	t.Helper()
	for _, place := range handPlaces(busyPlan()) {
		want, named := kept[place.name]
		if !named && place.least == -1 {
			want = -1
		}
		if got := *place.field(&h); got != want {
			t.Errorf("%s is %d, not %d", place.name, got, want)
		}
	}
}

func TestNewHand(t *testing.T) {
	h := impl.NewHand()
	checkNewHand(t, h, nil)
	if h != (impl.Hand{Key: -1, Held: -1, Curr: -1, New: -1}) {
		t.Errorf("%+v", h)
	}
	for _, p := range handPlans() {
		if !impl.HandOk(p, h) {
			t.Errorf("%+v: a new hand is refused", p)
		}
	}
}

func TestNewHandsAreEachOnesOwn(t *testing.T) {
	h := impl.NewHand()
	for _, place := range handPlaces(busyPlan()) {
		*place.field(&h) = 77
	}
	checkNewHand(t, impl.NewHand(), nil)
	r := impl.Resting(h, 1, 2, 3)
	r.Key, r.X, r.Curr = 5, 6, 7
	checkNewHand(t, impl.NewHand(), nil)
	checkNewHand(t, impl.Resting(h, 1, 2, 3), map[string]int64{"Held": 77, "Reply": 1, "Out": 2, "Sum": 3})
}

// Promise 5.
func TestWhoRestsKeepsNothingButItsPicture(t *testing.T) {
	d := &dice{state: 555}
	plans := handPlans()
	far := append(farOut(), 0, 1, 7, 8, 1000000, 1000001)
	for range 10000 {
		p := plans[d.throw(int64(len(plans)))]
		for _, h := range []impl.Hand{thrownHand(d, p), anyHand(d, p)} {
			reply, out, sum := far[d.throw(int64(len(far)))], far[d.throw(int64(len(far)))], far[d.throw(int64(len(far)))]
			r := impl.Resting(h, reply, out, sum)
			checkNewHand(t, r, map[string]int64{"Held": h.Held, "Reply": reply, "Out": out, "Sum": sum})
			if t.Failed() {
				t.Fatalf("%+v, %d, %d, %d: %+v", h, reply, out, sum, r)
			}
		}
	}
}

// Each field is drawn by itself, so that none of them can be hidden by the others.
func TestRestingForgetsEachField(t *testing.T) {
	for _, place := range handPlaces(busyPlan()) {
		for _, n := range append(farOut(), 0, 1, 5, place.least, place.most, place.least-1, place.most+1) {
			h := impl.NewHand()
			*place.field(&h) = n
			checkNewHand(t, impl.Resting(h, 0, 0, 0), map[string]int64{"Held": h.Held})
		}
	}
}

func TestRestingKeepsWhatIsHandedIn(t *testing.T) {
	h := impl.Hand{At: impl.AtSeal, Reply: 3, Out: 4, Sum: 5, Held: 100}
	for _, n := range append(farOut(), manyNumbers()...) {
		for _, c := range [][3]int64{{n, 0, 0}, {0, n, 0}, {0, 0, n}, {n, n, n}, {1, n, 2}} {
			checkNewHand(t, impl.Resting(h, c[0], c[1], c[2]), map[string]int64{"Held": 100, "Reply": c[0], "Out": c[1], "Sum": c[2]})
		}
	}
	if r := impl.Resting(impl.Hand{}, 1, 2, 3); r != (impl.Hand{Key: -1, Curr: -1, New: -1, Reply: 1, Out: 2, Sum: 3}) {
		t.Errorf("of the zero hand, which holds the stamp 0: %+v", r)
	}
}

// What rests is right just where its picture and what it tells are.
func TestRestingIsRight(t *testing.T) {
	for _, p := range handPlans() {
		for _, held := range []int64{-2, -1, 0, 100, 101} {
			for _, reply := range []int64{-1, 0, 7, 8} {
				for _, sum := range []int64{-1, 0, 1000000, 1000001} {
					r := impl.Resting(impl.Hand{At: 99, X: -9, Held: held}, reply, sum, 1000000-sum)
					want := held >= -1 && held <= 100 && reply >= 0 && reply <= 7 && sum >= 0 && sum <= 1000000
					if impl.HandOk(p, r) != want {
						t.Errorf("%+v: %+v: not %v", p, r, want)
					}
				}
			}
		}
	}
}

func TestHandArgumentsStay(t *testing.T) {
	d := &dice{state: 5555}
	for range 1000 {
		p := handPlans()[d.throw(20)]
		h := anyHand(d, p)
		wasPlan, was := p, h
		first, second := impl.HandOk(p, h), impl.Resting(h, 7, 8, 9)
		if p != wasPlan || h != was {
			t.Fatalf("%+v, %+v: once %+v, %+v", p, h, wasPlan, was)
		}
		if impl.HandOk(p, h) != first || impl.Resting(h, 7, 8, 9) != second {
			t.Fatalf("%+v, %+v: another answer", p, h)
		}
	}
}
