package tests

import (
	"testing"

	"loop.example/g00715/impl"
)

// call is what is asked of a hand.
type call struct {
	code  int64
	key   int64
	value int64
}

// callRow is a row of the document's table, in its own numbers: the least and the most of Key and of Value
// (where it is not named, both are what stands in its place), which picture it wants, and where it begins.
type callRow struct {
	code      int64
	leastKey  int64
	mostKey   int64
	mostValue int64
	wantsHeld bool
	wantsNone bool
	at        int64
	then      int64
	fitting   call
}

// callRows are the codes from 1 to 8, as they stand; fitting is a call that fits.
func callRows() []callRow {
	return []callRow{
		{code: 1, mostKey: 63, mostValue: 9999, at: 1, fitting: call{1, 63, 9999}},
		{code: 2, mostKey: 63, at: 1, fitting: call{2, 5, 0}},
		{code: 3, mostKey: 63, at: 1, fitting: call{3, 0, 0}},
		{code: 4, leastKey: -1, mostKey: -1, wantsNone: true, at: 13, fitting: call{4, -1, 0}},
		{code: 5, leastKey: -1, mostKey: -1, wantsHeld: true, at: 18, fitting: call{5, -1, 0}},
		{code: 6, mostKey: 63, wantsHeld: true, at: 2, then: 6, fitting: call{6, 63, 0}},
		{code: 7, mostKey: 63, mostValue: 63, wantsHeld: true, at: 2, then: 6, fitting: call{7, 9, 3}},
		{code: 8, leastKey: -1, mostKey: -1, at: 20, fitting: call{8, -1, 0}},
	}
}

// slowFits looks the call up in the rows.
func slowFits(c call) bool {
	for _, row := range callRows() {
		if row.code == c.code {
			return c.key >= row.leastKey && c.key <= row.mostKey && c.value >= 0 && c.value <= row.mostValue
		}
	}
	return false
}

// slowCalled goes through the codes from the one named last to the one that goes ahead of all, so that no order
// of early answers is trusted; every field of what comes of it is written out.
func slowCalled(p impl.Plan, h impl.Hand, c call) (impl.Hand, int64) {
	var row callRow
	for _, r := range callRows() {
		if r.code == c.code {
			row = r
		}
	}
	asked := impl.Hand{At: row.at, Then: row.then, Code: c.code, Key: c.key, Value: c.value, Held: h.Held, Curr: -1, New: -1}
	answer, code := asked, int64(0)
	if row.wantsNone && h.Held != -1 {
		answer, code = h, 4
	}
	if row.wantsHeld && h.Held == -1 {
		answer, code = h, 3
	}
	if !slowFits(c) {
		answer, code = h, 2
	}
	if h.At != 0 {
		answer, code = h, 1
	}
	if !slowHandOk(p, h) {
		answer, code = impl.Hand{}, 5
	}
	return answer, code
}

func checkCalled(t *testing.T, p impl.Plan, h impl.Hand, c call) (impl.Hand, int64) {
	t.Helper()
	got, code := impl.Called(p, h, c.code, c.key, c.value)
	if want, wantCode := slowCalled(p, h, c); got != want || code != wantCode {
		t.Fatalf("%+v, %+v: %+v\n%+v, %d: not\n%+v, %d", p, h, c, got, code, want, wantCode)
	}
	return got, code
}

// someCalls are all codes and some that are none, each with keys and values round all limits that any code has.
func someCalls() []call {
	var list []call
	for _, code := range append(farOut(), -1, 0, 1, 2, 3, 4, 5, 6, 7, 8, 9, 10) {
		for _, key := range []int64{-64, -2, -1, 0, 1, 31, 62, 63, 64, 1 << 32} {
			for _, value := range []int64{-1, 0, 1, 62, 63, 64, 9998, 9999, 10000, 1 << 32} {
				list = append(list, call{code, key, value})
			}
		}
	}
	return list
}

// thrownCall fits about every second time.
func thrownCall(d *dice) call {
	if d.throw(2) == 0 {
		row := callRows()[d.throw(8)]
		return call{row.code, row.leastKey + d.throw(row.mostKey-row.leastKey+1), d.throw(row.mostValue + 1)}
	}
	return call{d.throw(12) - 1, d.throw(68) - 2, []int64{-1, 0, 1, 63, 64, 9999, 10000}[d.throw(7)]}
}

func TestCallCodesAreTheDocuments(t *testing.T) {
	ops := [9]int64{impl.OpNone, impl.OpPut, impl.OpDel, impl.OpGet, impl.OpSnap, impl.OpClose, impl.OpLook, impl.OpCount, impl.OpCut}
	if ops != [9]int64{0, 1, 2, 3, 4, 5, 6, 7, 8} {
		t.Error(ops)
	}
	codes := [6]int64{impl.CdOk, impl.CdBusy, impl.CdUnfit, impl.CdNone, impl.CdHeld, impl.CdWrong}
	if codes != [6]int64{0, 1, 2, 3, 4, 5} {
		t.Error(codes)
	}
}

// Each limit is written out here, so that a slip in callRows does not pass for the document.
func TestCallFitsAtTheEdges(t *testing.T) {
	for _, c := range []call{
		{impl.OpPut, 0, 0}, {impl.OpPut, 63, 0}, {impl.OpPut, 0, 9999}, {impl.OpPut, 63, 9999}, {impl.OpPut, 5, 64},
		{impl.OpDel, 0, 0}, {impl.OpDel, 63, 0}, {impl.OpGet, 0, 0}, {impl.OpGet, 63, 0}, {impl.OpLook, 0, 0}, {impl.OpLook, 63, 0},
		{impl.OpSnap, -1, 0}, {impl.OpClose, -1, 0}, {impl.OpCut, -1, 0},
		{impl.OpCount, 0, 0}, {impl.OpCount, 63, 0}, {impl.OpCount, 0, 63}, {impl.OpCount, 63, 63}, {impl.OpCount, 9, 3}} {
		if !impl.CallFits(c.code, c.key, c.value) {
			t.Errorf("%+v is refused", c)
		}
	}
	for _, c := range []call{
		{impl.OpPut, -1, 0}, {impl.OpPut, 64, 0}, {impl.OpPut, 0, -1}, {impl.OpPut, 0, 10000}, {impl.OpPut, -1, 10000},
		{impl.OpDel, -1, 0}, {impl.OpDel, 64, 0}, {impl.OpDel, 5, 1}, {impl.OpDel, 5, -1},
		{impl.OpGet, -1, 0}, {impl.OpGet, 64, 0}, {impl.OpGet, 5, 1}, {impl.OpGet, 5, -1},
		{impl.OpLook, -1, 0}, {impl.OpLook, 64, 0}, {impl.OpLook, 5, 1}, {impl.OpLook, 5, -1},
		{impl.OpSnap, -2, 0}, {impl.OpSnap, 0, 0}, {impl.OpSnap, -1, 1}, {impl.OpSnap, -1, -1},
		{impl.OpClose, -2, 0}, {impl.OpClose, 0, 0}, {impl.OpClose, -1, 1}, {impl.OpClose, -1, -1},
		{impl.OpCut, -2, 0}, {impl.OpCut, 0, 0}, {impl.OpCut, -1, 1}, {impl.OpCut, -1, -1},
		{impl.OpCount, -1, 0}, {impl.OpCount, 64, 0}, {impl.OpCount, 0, -1}, {impl.OpCount, 0, 64}, {impl.OpCount, 0, 9999},
		{impl.OpNone, -1, 0}, {impl.OpNone, 0, 0}, {9, -1, 0}, {9, 0, 0}, {-1, -1, 0}, {-1, 0, 0}} {
		if impl.CallFits(c.code, c.key, c.value) {
			t.Errorf("%+v is accepted", c)
		}
	}
}

func TestCallFitsNumberByNumber(t *testing.T) {
	keys, values := aroundLimits(-1, 63), append(aroundLimits(0, 63), aroundLimits(0, 9999)...)
	for _, code := range append(farOut(), -2, -1, 0, 1, 2, 3, 4, 5, 6, 7, 8, 9, 10, 16, 256+1, 1<<32+4) {
		for _, key := range keys {
			for _, value := range values {
				c := call{code, key, value}
				if want := slowFits(c); impl.CallFits(code, key, value) != want {
					t.Fatalf("%+v: not %v", c, want)
				}
			}
		}
	}
}

// Promise 6, in every state and with every call: what can be asked is asked, once at a time.
func TestWhatCanBeAskedIsAskedOnceAtATime(t *testing.T) {
	d := &dice{state: 6}
	plans, calls := handPlans(), someCalls()
	for at := int64(0); at <= 23; at++ {
		for _, c := range calls {
			p := plans[d.throw(int64(len(plans)))]
			h := thrownHand(d, p)
			h.At = at
			if d.throw(2) == 0 {
				h.Held = -1
			}
			checkOnceAtATime(t, p, h, c)
		}
	}
	for range 20000 {
		p := plans[d.throw(int64(len(plans)))]
		h := thrownHand(d, p)
		h.At = []int64{0, 0, 0, h.At}[d.throw(4)]
		h.Held = []int64{-1, 0, 100, h.Held}[d.throw(4)]
		checkOnceAtATime(t, p, h, thrownCall(d))
	}
}

// checkOnceAtATime asks it of a right hand; where it is asked, each call that fits, and that one itself, comes too early then.
func checkOnceAtATime(t *testing.T, p impl.Plan, h impl.Hand, c call) {
	t.Helper()
	asked, code := checkCalled(t, p, h, c)
	if code == impl.CdWrong {
		t.Fatalf("%+v, %+v: %+v is wrong", p, h, c)
	}
	if code != impl.CdOk {
		if asked != h {
			t.Fatalf("%+v, %+v: %+v leaves %+v", p, h, c, asked)
		}
		return
	}
	if h.At != impl.AtRest || asked.At == impl.AtRest || !impl.HandOk(p, asked) {
		t.Fatalf("%+v, %+v: %+v makes %+v", p, h, c, asked)
	}
	for _, next := range append([]callRow{{fitting: c}, {fitting: call{99, 99, -99}}}, callRows()...) {
		n := next.fitting
		if again, code := impl.Called(p, asked, n.code, n.key, n.value); code != impl.CdBusy || again != asked {
			t.Fatalf("%+v, %+v: %+v, and then %+v: %+v, %d", p, h, c, n, again, code)
		}
	}
}

// Every field of what comes of each code, with a picture and without one, of a hand that is full of other numbers.
func TestCalledFieldByField(t *testing.T) {
	p := impl.Plan{Procs: 2, Nodes: 10, Vers: 30, Guides: 4}
	_, high := edgeHands(p)
	for _, c := range []struct {
		asked call
		at    int64
		then  int64
		held  []int64
	}{
		{call{impl.OpPut, 20, 5}, impl.AtGuide, impl.ThNone, []int64{-1, 0, 4, 100}},
		{call{impl.OpDel, 20, 0}, impl.AtGuide, impl.ThNone, []int64{-1, 0, 4, 100}},
		{call{impl.OpGet, 20, 0}, impl.AtGuide, impl.ThNone, []int64{-1, 0, 4, 100}},
		{call{impl.OpSnap, -1, 0}, impl.AtRead, impl.ThNone, []int64{-1}},
		{call{impl.OpClose, -1, 0}, impl.AtClose, impl.ThNone, []int64{0, 4, 100}},
		{call{impl.OpLook, 20, 0}, impl.AtHead, impl.ThOld, []int64{0, 4, 100}},
		{call{impl.OpCount, 20, 63}, impl.AtHead, impl.ThOld, []int64{0, 4, 100}},
		{call{impl.OpCut, -1, 0}, impl.AtLeast, impl.ThNone, []int64{-1, 0, 4, 100}},
	} {
		for _, held := range c.held {
			for _, h := range []impl.Hand{impl.NewHand(), {}, high} {
				h.At, h.Held = impl.AtRest, held
				got, code := impl.Called(p, h, c.asked.code, c.asked.key, c.asked.value)
				if code != impl.CdOk {
					t.Errorf("%+v with the picture %d: %d", c.asked, held, code)
				}
				checkNewHand(t, got, map[string]int64{"At": c.at, "Then": c.then, "Held": held,
					"Code": c.asked.code, "Key": c.asked.key, "Value": c.asked.value})
			}
		}
	}
}

// Nothing of the hand is kept but its picture, each field drawn by itself.
func TestCalledForgetsEachField(t *testing.T) {
	p := impl.Plan{Procs: 2, Nodes: 10, Vers: 30, Guides: 4}
	for _, place := range handPlaces(p) {
		for _, n := range []int64{place.least, place.least + 1, (place.least + place.most) / 2, place.most} {
			h := impl.NewHand()
			*place.field(&h) = n
			for _, row := range callRows() {
				checkCalled(t, p, h, row.fitting)
			}
		}
	}
}

func TestCalledByThePicture(t *testing.T) {
	p := linkPlan()
	for held := int64(-1); held <= 100; held++ {
		h := impl.Resting(impl.Hand{Held: held}, impl.RpOld, 7, 8)
		for _, c := range []call{{impl.OpClose, -1, 0}, {impl.OpLook, 3, 0}, {impl.OpCount, 3, 9}} {
			got, code := impl.Called(p, h, c.code, c.key, c.value)
			if (code == impl.CdNone) != (held == -1) || (code == impl.CdOk) != (held != -1) || (code == impl.CdNone) != (got == h) {
				t.Errorf("%+v with the picture %d: %+v, %d", c, held, got, code)
			}
		}
		got, code := impl.Called(p, h, impl.OpSnap, -1, 0)
		if (code == impl.CdHeld) != (held != -1) || (code == impl.CdOk) != (held == -1) || (code == impl.CdHeld) != (got == h) {
			t.Errorf("a picture with the picture %d: %+v, %d", held, got, code)
		}
		for _, c := range []call{{impl.OpPut, 3, 9}, {impl.OpDel, 3, 0}, {impl.OpGet, 3, 0}, {impl.OpCut, -1, 0}} {
			if got, code := impl.Called(p, h, c.code, c.key, c.value); code != impl.CdOk || got.Held != held {
				t.Errorf("%+v with the picture %d: %+v, %d", c, held, got, code)
			}
		}
	}
}

// Two or more codes would fit each of these; the first one is answered.
func TestCalledInTheOrderOfTheCodes(t *testing.T) {
	right, wrong := linkPlan(), impl.Plan{}
	rests, holds := impl.NewHand(), impl.Resting(impl.Hand{Held: 4}, 0, 0, 0)
	works, worksHolding := rests, holds
	works.At, worksHolding.At = impl.AtSeal, impl.AtSeal
	broken, brokenWorking := holds, worksHolding
	broken.X, brokenWorking.X = right.Nodes, right.Nodes
	for _, c := range []struct {
		p    impl.Plan
		h    impl.Hand
		c    call
		want int64
	}{
		{wrong, works, call{0, 0, 0}, impl.CdWrong},
		{wrong, worksHolding, call{impl.OpSnap, -1, 0}, impl.CdWrong},
		{wrong, rests, call{impl.OpLook, -1, 0}, impl.CdWrong},
		{wrong, rests, call{impl.OpLook, 3, 0}, impl.CdWrong},
		{wrong, rests, call{impl.OpPut, 3, 4}, impl.CdWrong},
		{right, brokenWorking, call{9, 0, 0}, impl.CdWrong},
		{right, broken, call{impl.OpSnap, -1, 0}, impl.CdWrong},
		{right, broken, call{impl.OpSnap, 0, 0}, impl.CdWrong},
		{right, broken, call{impl.OpPut, 3, 4}, impl.CdWrong},
		{right, works, call{9, 0, 0}, impl.CdBusy},
		{right, works, call{impl.OpLook, 64, 0}, impl.CdBusy},
		{right, works, call{impl.OpLook, 3, 0}, impl.CdBusy},
		{right, works, call{impl.OpCount, 3, 4}, impl.CdBusy},
		{right, works, call{impl.OpClose, -1, 0}, impl.CdBusy},
		{right, worksHolding, call{impl.OpSnap, -1, 0}, impl.CdBusy},
		{right, worksHolding, call{impl.OpSnap, 0, 0}, impl.CdBusy},
		{right, rests, call{impl.OpLook, -1, 0}, impl.CdUnfit},
		{right, rests, call{impl.OpLook, 3, 1}, impl.CdUnfit},
		{right, rests, call{impl.OpCount, 3, 64}, impl.CdUnfit},
		{right, rests, call{impl.OpClose, 0, 0}, impl.CdUnfit},
		{right, holds, call{impl.OpSnap, 0, 0}, impl.CdUnfit},
		{right, holds, call{impl.OpSnap, -1, 1}, impl.CdUnfit},
		{right, rests, call{impl.OpLook, 3, 0}, impl.CdNone},
		{right, rests, call{impl.OpCount, 3, 4}, impl.CdNone},
		{right, rests, call{impl.OpClose, -1, 0}, impl.CdNone},
		{right, holds, call{impl.OpSnap, -1, 0}, impl.CdHeld},
	} {
		want := c.h
		if c.want == impl.CdWrong {
			want = impl.Hand{}
		}
		if got, code := impl.Called(c.p, c.h, c.c.code, c.c.key, c.c.value); code != c.want || got != want {
			t.Errorf("%+v, %+v, %+v: %+v, %d: not %d", c.p, c.h, c.c, got, code, c.want)
		}
	}
}

func TestCalledOfWrongPlans(t *testing.T) {
	d := &dice{state: 66}
	for _, p := range wrongPlans() {
		for _, h := range []impl.Hand{{}, impl.NewHand(), thrownHand(d, busyPlan()), anyHand(d, busyPlan()), impl.Resting(impl.Hand{Held: 4}, 1, 2, 3)} {
			for _, c := range []call{callRows()[d.throw(8)].fitting, thrownCall(d), {impl.OpPut, 3, 4}, {impl.OpCut, -1, 0}, {0, 0, 0}} {
				if got, code := impl.Called(p, h, c.code, c.key, c.value); code != impl.CdWrong || got != (impl.Hand{}) {
					t.Errorf("%+v, %+v, %+v: %+v, %d", p, h, c, got, code)
				}
			}
		}
	}
}

func TestCalledOfWrongHands(t *testing.T) {
	for _, p := range handPlans() {
		for _, place := range handPlaces(p) {
			for _, n := range append(farOut(), place.least-1, place.most+1) {
				if n >= place.least && n <= place.most {
					continue
				}
				h := impl.NewHand()
				*place.field(&h) = n
				for _, row := range callRows() {
					c := row.fitting
					if got, code := impl.Called(p, h, c.code, c.key, c.value); code != impl.CdWrong || got != (impl.Hand{}) {
						t.Errorf("%+v, %s %d, %+v: %+v, %d", p, place.name, n, c, got, code)
					}
				}
			}
		}
	}
}

func TestCalledOfThrownHands(t *testing.T) {
	d := &dice{state: 666}
	plans := handPlans()
	for range 20000 {
		p, other := plans[d.throw(int64(len(plans)))], plans[d.throw(int64(len(plans)))]
		h := thrownHand(d, p)
		h.At *= d.throw(2)
		checkCalled(t, other, h, thrownCall(d))
		checkCalled(t, p, anyHand(d, p), thrownCall(d))
	}
}

func TestCallArgumentsStay(t *testing.T) {
	d := &dice{state: 6666}
	plans := handPlans()
	for range 3000 {
		p := plans[d.throw(int64(len(plans)))]
		h := thrownHand(d, p)
		h.At *= d.throw(2)
		c := thrownCall(d)
		wasPlan, was, wasCall := p, h, c
		first, code := impl.Called(p, h, c.code, c.key, c.value)
		fits := impl.CallFits(c.code, c.key, c.value)
		if p != wasPlan || h != was || c != wasCall {
			t.Fatalf("%+v, %+v, %+v: once %+v, %+v, %+v", p, h, c, wasPlan, was, wasCall)
		}
		again, codeAgain := impl.Called(p, h, c.code, c.key, c.value)
		if again != first || codeAgain != code || impl.CallFits(c.code, c.key, c.value) != fits {
			t.Fatalf("%+v, %+v, %+v: another answer", p, h, c)
		}
	}
}
