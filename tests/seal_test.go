package tests

import (
	"reflect"
	"testing"

	"loop.example/g00715/impl"
)

func sealPlan() impl.Plan { return impl.Plan{Procs: 3, Nodes: 7, Vers: 16, Guides: 2} }

// sealArena has the keys 10, 20 and 30 behind the head, the versions 0 to 4 with a stamp and 5 to 9 without one, a gone one of each,
// and one of each kind that has none. Its camera is at 7.
func sealArena() impl.Arena {
	return impl.Arena{
		Camera: 7,
		Slots:  []int64{3, -1, 7},
		Guides: []int64{1, 3},
		Nodes: []impl.Node{{Key: -1, Head: 5}, {Key: 10, Value: 100, Head: 4}, {Key: 20, Value: 200, Head: 7},
			{Key: 30, Value: 300, Head: 6}},
		Vers: []impl.Ver{
			{Next: 1, Prev: -1},
			{Next: 2, Stamp: 2, Prev: -1},
			{Next: 3, Stamp: 4, Prev: -1, Kind: impl.VrPut},
			{Next: -1, Stamp: 5, Prev: -1},
			{Next: 2, Gone: true, Stamp: 6, Prev: 1, Kind: impl.VrDel},
			{Next: 1, Stamp: -1, Prev: 0, Kind: impl.VrPut},
			{Next: -1, Stamp: -1, Prev: 3, Kind: impl.VrPut},
			{Next: 3, Gone: true, Stamp: -1, Prev: 2, Kind: impl.VrDel},
			{Next: 2, Stamp: -1, Prev: 4},
			{Next: -1, Gone: true, Stamp: -1, Prev: 3, Kind: impl.VrDel},
		},
	}
}

// sealHand stands at the node 2, of the key 20, whose version 2 it has met. No two fields that may be mixed up are alike.
func sealHand() impl.Hand {
	return impl.Hand{At: impl.AtStamp, Then: impl.ThWalk, Code: impl.OpPut, Key: 25, Value: 40, Begin: 11, Reply: 5, Out: 12, Sum: 13,
		Held: 4, X: 2, Ver: 2, Cam: 6, CamAt: 77, Pred: 1, PredVer: 1, Curr: 2, CurrVer: 3, New: -1, Least: 5, Index: 14, Round: 15}
}

// changed is h with some of its fields in another way.
func changed(h impl.Hand, change func(h *impl.Hand)) impl.Hand {
	change(&h)
	return h
}

// replied is what rests, with this reply, in the document's own words.
func replied(h impl.Hand, reply int64, out int64, sum int64) impl.Hand {
	return impl.Hand{Key: -1, Held: h.Held, Curr: -1, New: -1, Reply: reply, Out: out, Sum: sum}
}

// fitHand is right, and all its nodes and versions are there. Its key and its stamps are drawn where they meet those of the arena.
func fitHand(d *dice, list planned) impl.Hand {
	h := thrownHand(d, list.p)
	nodes, vers := int64(len(list.a.Nodes)), int64(len(list.a.Vers))
	h.X, h.Pred = d.throw(nodes), d.throw(nodes)
	h.Curr, h.New = d.throw(nodes+1)-1, d.throw(nodes+1)-1
	h.Ver, h.PredVer, h.CurrVer = d.throw(vers), d.throw(vers), d.throw(vers)
	h.Cam, h.Least, h.Held = min(d.throw(list.a.Camera+3), 100), min(d.throw(list.a.Camera+2), 100), min(d.throw(list.a.Camera+3)-1, 100)
	if d.throw(2) == 0 {
		h.Key = list.a.Nodes[d.throw(nodes)].Key
	}
	if d.throw(2) == 0 {
		h.Value = d.throw(66)
	}
	if d.throw(8) == 0 {
		h.Out, h.Sum = impl.MaxSum-d.throw(2), impl.MaxSum-d.throw(10000)
	}
	return h
}

// slowFound and those behind it follow the document's tables word by word, in its own numbers.
func slowFound(a impl.Arena, h impl.Hand) impl.Hand {
	there, value := false, int64(0)
	for n, node := range a.Nodes {
		if int64(n) == h.Curr && node.Key == h.Key {
			there, value = true, node.Value
		}
	}
	switch h.Code {
	case 3:
		if there {
			return replied(h, 2, value, 0)
		}
		return replied(h, 3, 0, 0)
	case 1:
		if there {
			return replied(h, 2, value, 0)
		}
		h.At = 8
		if h.New == -1 {
			h.At = 7
		}
		return h
	case 2:
		if !there {
			return replied(h, 3, 0, 0)
		}
		h.At = 11
		return h
	}
	h.At = 0
	return h
}

func slowWalked(a impl.Arena, h impl.Hand, n int64) impl.Hand {
	h.Curr = n
	if n == -1 {
		return slowFound(a, h)
	}
	h.X = n
	h.Then = 2
	h.At = 2
	return h
}

func slowUsed(a impl.Arena, h impl.Hand) impl.Hand {
	ver, last := a.Vers[h.Ver], h.Key
	if h.Code != 6 && h.Code != 7 {
		h.At = 0
		return h
	}
	if h.Code == 7 {
		last = h.Value
	}
	if h.X != 0 {
		key, value := a.Nodes[h.X].Key, a.Nodes[h.X].Value
		if h.Code == 6 && key == h.Key {
			if ver.Gone {
				return replied(h, 3, 0, 0)
			}
			return replied(h, 2, value, 0)
		}
		if h.Code == 7 && key >= h.Key && key <= h.Value && !ver.Gone {
			if h.Out++; h.Out > 1000000 {
				h.Out = 1000000
			}
			if h.Sum += value; h.Sum > 1000000 {
				h.Sum = 1000000
			}
		}
	}
	if ver.Next == -1 || a.Nodes[ver.Next].Key > last {
		if h.Code == 6 {
			return replied(h, 3, 0, 0)
		}
		return replied(h, 4, h.Out, h.Sum)
	}
	h.X = ver.Next
	h.At = 2
	return h
}

func slowWentOn(a impl.Arena, h impl.Hand) impl.Hand {
	ver := a.Vers[h.Ver]
	switch h.Then {
	case 0:
		h.At = 0
	case 1:
		if !ver.Gone {
			h.Pred = h.X
			h.PredVer = h.Ver
			return slowWalked(a, h, ver.Next)
		}
		h.X = 0
		h.At = 2
	case 2:
		h.CurrVer = h.Ver
		if !ver.Gone {
			if h.Curr >= 0 && a.Nodes[h.Curr].Key >= h.Key {
				return slowFound(a, h)
			}
			h.Pred = h.Curr
			if h.Pred < 0 {
				h.Pred = 0
			}
			h.PredVer = h.Ver
			return slowWalked(a, h, ver.Next)
		}
		h.At = 6
	case 3:
		h.PredVer = h.Ver
		return slowWalked(a, h, ver.Next)
	case 4:
		h.At = 10
	case 5:
		h.At = 12
	case 6:
		if ver.Stamp <= h.Held {
			return slowUsed(a, h)
		}
		h.At = 19
	case 7:
		h.At = 22
		if ver.Stamp <= h.Least {
			h.At = 23
		}
	}
	return h
}

// slowSeal wants what is fit.
func slowSeal(a impl.Arena, h impl.Hand, clock int64) (impl.Done, bool) {
	done := impl.Done{Arena: cloneArena(a), Hand: h}
	switch h.At {
	case 2:
		done.Hand.Ver = a.Nodes[h.X].Head
		done.Hand.At = 3
	case 3:
		done.Hand.At = 4
		if a.Vers[h.Ver].Stamp != -1 {
			done.Hand = slowWentOn(a, h)
		}
	case 4:
		done.Hand.Cam = a.Camera
		done.Hand.CamAt = clock
		done.Hand.At = 5
	case 5:
		if ver := &done.Arena.Vers[h.Ver]; ver.Stamp == -1 {
			ver.Stamp = h.Cam
			if h.Cam > a.Camera {
				ver.Stamp = a.Camera
			}
			about := a.Nodes[h.X]
			if ver.Kind == 1 {
				about = a.Nodes[0]
				if ver.Next != -1 {
					about = a.Nodes[ver.Next]
				}
			}
			if ver.Kind != 0 {
				done.Deed = impl.Deed{Kind: ver.Kind, Key: about.Key, Value: about.Value, Stamp: h.Cam, Clock: h.CamAt}
			}
		}
		done.Hand = slowWentOn(done.Arena, h)
	default:
		return impl.Done{}, false
	}
	return done, true
}

func sameDone(d impl.Done, e impl.Done) bool {
	return sameArena(d.Arena, e.Arena) && d.Hand == e.Hand && d.Deed == e.Deed && d.Tick == e.Tick
}

// checkSealStep holds one step of what is fit against the slow one.
func checkSealStep(t *testing.T, list planned, me int64, h impl.Hand, clock int64) impl.Done {
	t.Helper()
	want, wantIs := slowSeal(list.a, h, clock)
	got, is := impl.SealStep(list.p, list.a, me, h, clock)
	if is != wantIs || !sameDone(got, want) {
		t.Fatalf("%+v\n%+v\nclock %d: %v %+v\nnot %v %+v", list.a, h, clock, is, got, wantIs, want)
	}
	return got
}

// checkGoesOn asks for what going on makes of h, whose version has a stamp: by itself, and as part of the two steps that go on.
func checkGoesOn(t *testing.T, why string, list planned, h impl.Hand, want impl.Hand) {
	t.Helper()
	for at := int64(impl.AtRest); at <= impl.AtSnip; at++ {
		h.At = at
		if got, is := impl.WentOn(list.p, list.a, h); !is || got != want {
			t.Errorf("%s: At %d goes on: %v\n%+v, not\n%+v", why, at, is, got, want)
		}
	}
	for _, at := range []int64{impl.AtStamp, impl.AtSeal} {
		h.At = at
		d, is := impl.SealStep(list.p, list.a, 1, h, 500)
		if !is || !sameDone(d, impl.Done{Arena: list.a, Hand: want}) {
			t.Errorf("%s: the step At %d: %v\n%+v, not\n%+v", why, at, is, d, want)
		}
	}
}

func TestWhatGoesOnByThen(t *testing.T) {
	list := planned{sealPlan(), sealArena()}
	for _, c := range []struct {
		why  string
		then int64
		give func(h *impl.Hand)
		want func(h *impl.Hand)
	}{
		{"none", 0, func(h *impl.Hand) {}, func(h *impl.Hand) { h.At = 0 }},
		{"none, gone", 0, func(h *impl.Hand) { h.Ver = 4 }, func(h *impl.Hand) { h.At = 0 }},
		{"start", 1, func(h *impl.Hand) {}, func(h *impl.Hand) { h.Pred, h.PredVer, h.Curr, h.X, h.Then, h.At = 2, 2, 3, 3, 2, 2 }},
		{"start, at the end", 1, func(h *impl.Hand) { h.X, h.Ver = 3, 3 }, func(h *impl.Hand) { h.Pred, h.PredVer, h.Curr, h.At = 3, 3, -1, 7 }},
		{"start, gone", 1, func(h *impl.Hand) { h.Ver = 4 }, func(h *impl.Hand) { h.X, h.At = 0, 2 }},
		{"walk, below the key", 2, func(h *impl.Hand) {}, func(h *impl.Hand) { h.CurrVer, h.Pred, h.PredVer, h.Curr, h.X, h.At = 2, 2, 2, 3, 3, 2 }},
		{"walk, below by one", 2, func(h *impl.Hand) { h.Key = 21 }, func(h *impl.Hand) { h.CurrVer, h.Pred, h.PredVer, h.Curr, h.X, h.At = 2, 2, 2, 3, 3, 2 }},
		{"walk, below at the end", 2, func(h *impl.Hand) { h.Ver = 3 }, func(h *impl.Hand) { h.CurrVer, h.Pred, h.PredVer, h.Curr, h.At = 3, 2, 3, -1, 7 }},
		{"walk, no Curr", 2, func(h *impl.Hand) { h.Curr = -1 }, func(h *impl.Hand) { h.CurrVer, h.Pred, h.PredVer, h.Curr, h.X, h.At = 2, 0, 2, 3, 3, 2 }},
		{"walk, no Curr and no Next", 2, func(h *impl.Hand) { h.Curr, h.Ver = -1, 3 }, func(h *impl.Hand) { h.CurrVer, h.Pred, h.PredVer, h.At = 3, 0, 3, 7 }},
		{"walk, no Curr and no key", 2, func(h *impl.Hand) { h.Curr, h.Key = -1, -1 }, func(h *impl.Hand) { h.CurrVer, h.Pred, h.PredVer, h.Curr, h.X, h.At = 2, 0, 2, 3, 3, 2 }},
		{"walk, past the key", 2, func(h *impl.Hand) { h.Key = 19 }, func(h *impl.Hand) { h.CurrVer, h.At = 2, 7 }},
		{"walk, past the key, with a New", 2, func(h *impl.Hand) { h.Key, h.New = 19, 0 }, func(h *impl.Hand) { h.CurrVer, h.At = 2, 8 }},
		{"walk, at the key, to take it out", 2, func(h *impl.Hand) { h.Key, h.Code = 20, 2 }, func(h *impl.Hand) { h.CurrVer, h.At = 2, 11 }},
		{"walk, gone", 2, func(h *impl.Hand) { h.Ver = 4 }, func(h *impl.Hand) { h.CurrVer, h.At = 4, 6 }},
		{"walk, gone, at the key", 2, func(h *impl.Hand) { h.Ver, h.Key = 4, 20 }, func(h *impl.Hand) { h.CurrVer, h.At = 4, 6 }},
		{"walk, gone, no Curr", 2, func(h *impl.Hand) { h.Ver, h.Curr = 4, -1 }, func(h *impl.Hand) { h.CurrVer, h.At = 4, 6 }},
		{"unlinked", 3, func(h *impl.Hand) {}, func(h *impl.Hand) { h.PredVer, h.Curr, h.X, h.Then, h.At = 2, 3, 3, 2, 2 }},
		{"unlinked, gone", 3, func(h *impl.Hand) { h.Ver = 4 }, func(h *impl.Hand) { h.PredVer, h.Curr, h.X, h.Then, h.At = 4, 2, 2, 2, 2 }},
		{"unlinked, at the end", 3, func(h *impl.Hand) { h.Ver = 3 }, func(h *impl.Hand) { h.PredVer, h.Curr, h.At = 3, -1, 7 }},
		{"linked", 4, func(h *impl.Hand) {}, func(h *impl.Hand) { h.At = 10 }},
		{"linked, gone", 4, func(h *impl.Hand) { h.Ver = 4 }, func(h *impl.Hand) { h.At = 10 }},
		{"marked", 5, func(h *impl.Hand) {}, func(h *impl.Hand) { h.At = 12 }},
		{"marked, gone", 5, func(h *impl.Hand) { h.Ver = 4 }, func(h *impl.Hand) { h.At = 12 }},
		{"old, past what is held", 6, func(h *impl.Hand) { h.Held, h.Code = 3, 6 }, func(h *impl.Hand) { h.At = 19 }},
		{"old, nothing held", 6, func(h *impl.Hand) { h.Held, h.Code = -1, 6 }, func(h *impl.Hand) { h.At = 19 }},
		{"old, past what is held, gone", 6, func(h *impl.Hand) { h.Held, h.Code, h.Ver = 5, 7, 4 }, func(h *impl.Hand) { h.At = 19 }},
		{"old, no look", 6, func(h *impl.Hand) {}, func(h *impl.Hand) { h.At = 0 }},
		{"old, look below the key", 6, func(h *impl.Hand) { h.Code, h.Key = 6, 31 }, func(h *impl.Hand) { h.X, h.At = 3, 2 }},
		{"old, look, held later", 6, func(h *impl.Hand) { h.Code, h.Key, h.Held = 6, 30, 100 }, func(h *impl.Hand) { h.X, h.At = 3, 2 }},
		{"trim, at Least", 7, func(h *impl.Hand) { h.Least = 4 }, func(h *impl.Hand) { h.At = 23 }},
		{"trim, below Least", 7, func(h *impl.Hand) {}, func(h *impl.Hand) { h.At = 23 }},
		{"trim, past Least", 7, func(h *impl.Hand) { h.Least = 3 }, func(h *impl.Hand) { h.At = 22 }},
		{"trim, past Least, gone", 7, func(h *impl.Hand) { h.Ver = 4 }, func(h *impl.Hand) { h.At = 22 }},
	} {
		h := changed(sealHand(), func(h *impl.Hand) { h.Then = c.then })
		h = changed(h, c.give)
		checkGoesOn(t, c.why, list, h, changed(h, c.want))
	}
}

// foundCase is what comes of having found, with a Code, where the key is there or not, and New is -1 or not.
type foundCase struct {
	code  int64
	there bool
	made  int64
	reply int64
	out   int64
	at    int64
}

func foundCases() []foundCase {
	var list []foundCase
	for _, made := range []int64{-1, 0, 3} {
		at := int64(impl.AtAim)
		if made == -1 {
			at = impl.AtMake
		}
		list = append(list,
			foundCase{impl.OpGet, true, made, impl.RpOld, 200, impl.AtRest}, foundCase{impl.OpGet, false, made, impl.RpNot, 0, impl.AtRest},
			foundCase{impl.OpPut, true, made, impl.RpOld, 200, impl.AtRest}, foundCase{impl.OpPut, false, made, 0, 0, at},
			foundCase{impl.OpDel, true, made, 0, 0, impl.AtMark}, foundCase{impl.OpDel, false, made, impl.RpNot, 0, impl.AtRest})
		for _, code := range []int64{impl.OpNone, impl.OpSnap, impl.OpClose, impl.OpLook, impl.OpCount, impl.OpCut} {
			list = append(list, foundCase{code, true, made, 0, 0, impl.AtRest}, foundCase{code, false, made, 0, 0, impl.AtRest})
		}
	}
	return list
}

func (c foundCase) madeOf(h impl.Hand) impl.Hand {
	if c.reply != 0 {
		return replied(h, c.reply, c.out, 0)
	}
	h.At = c.at
	return h
}

func TestWhatIsFoundByCode(t *testing.T) {
	list := planned{sealPlan(), sealArena()}
	for _, c := range foundCases() {
		h := changed(sealHand(), func(h *impl.Hand) { h.Code, h.New, h.Key = c.code, c.made, 15 })
		if c.there {
			h.Key = 20
		}
		want := c.madeOf(changed(h, func(h *impl.Hand) { h.CurrVer = h.Ver }))
		checkGoesOn(t, "found at Curr", list, h, want)
		if c.there {
			continue
		}
		// At the end of the list the key is not there, whatever Curr was.
		h.Key = 20
		got, is := impl.WalkedTo(list.p, list.a, h, -1)
		if want := c.madeOf(changed(h, func(h *impl.Hand) { h.Curr = -1 })); !is || got != want {
			t.Errorf("code %d, New %d, walked to none: %v\n%+v, not\n%+v", c.code, c.made, is, got, want)
		}
		h.Key = -1
		got, is = impl.WalkedTo(list.p, list.a, h, -1)
		if want := c.madeOf(changed(h, func(h *impl.Hand) { h.Curr = -1 })); !is || got != want {
			t.Errorf("code %d, New %d, walked to none without a key: %v\n%+v, not\n%+v", c.code, c.made, is, got, want)
		}
	}
}

// The head has the Key -1: who is at the head and looks for none has found it there, as the words say.
func TestWhatIsFoundAtTheHead(t *testing.T) {
	list := planned{sealPlan(), sealArena()}
	h := changed(sealHand(), func(h *impl.Hand) { h.Curr, h.Key, h.Code = 0, -1, impl.OpGet })
	checkGoesOn(t, "the head", list, h, replied(h, impl.RpOld, 0, 0))
	h.Key = 0
	checkGoesOn(t, "past the head", list, h, changed(h, func(h *impl.Hand) { h.CurrVer, h.Pred, h.PredVer, h.Curr, h.X, h.At = 2, 0, 2, 3, 3, 2 }))
}

func TestWalkedTo(t *testing.T) {
	list := planned{sealPlan(), sealArena()}
	for then := int64(impl.ThNone); then <= impl.ThTrim; then++ {
		for at := int64(impl.AtRest); at <= impl.AtSnip; at++ {
			h := changed(sealHand(), func(h *impl.Hand) { h.At, h.Then, h.Ver = at, then, at%10 })
			for n := int64(0); n <= 3; n++ {
				got, is := impl.WalkedTo(list.p, list.a, h, n)
				want := h
				want.Curr, want.X, want.Then, want.At = n, n, impl.ThWalk, impl.AtHead
				if !is || got != want {
					t.Errorf("to %d: %v %+v, not %+v", n, is, got, want)
				}
			}
			want := h
			want.Curr, want.At = -1, impl.AtMake
			if got, is := impl.WalkedTo(list.p, list.a, h, -1); !is || got != want {
				t.Errorf("to none: %v %+v, not %+v", is, got, want)
			}
			for _, n := range append(farOut(), 4, 5, 6, 7, 8) {
				if got, is := impl.WalkedTo(list.p, list.a, h, n); n != -1 && (is || got != (impl.Hand{})) {
					t.Errorf("to %d, which there is not: %v %+v", n, is, got)
				}
			}
		}
	}
}

func TestWentOnWantsAStamp(t *testing.T) {
	p, a := sealPlan(), sealArena()
	for then := int64(impl.ThNone); then <= impl.ThTrim; then++ {
		for v := range int64(len(a.Vers)) {
			h := changed(sealHand(), func(h *impl.Hand) { h.Then, h.Ver = then, v })
			got, is := impl.WentOn(p, a, h)
			if is != (v <= 4) || !is && got != (impl.Hand{}) {
				t.Errorf("then %d, version %d: %v %+v", then, v, is, got)
			}
		}
	}
}

// What is used, chapter 12: the version 2 leads to the key 30, the version 3 to none, the version 4 is gone.
func TestWhatIsUsed(t *testing.T) {
	list := planned{sealPlan(), sealArena()}
	const look, count = impl.OpLook, impl.OpCount
	for _, c := range []struct {
		why  string
		give impl.Hand // Code, Key, Value, X, Ver, Out and Sum
		want impl.Hand // At, X, Out and Sum, or the Reply with Out and Sum
	}{
		{"look, at the key", impl.Hand{Code: look, Key: 20, X: 2, Ver: 2}, impl.Hand{Reply: impl.RpOld, Out: 200}},
		{"look, at the key, at the end", impl.Hand{Code: look, Key: 30, X: 3, Ver: 3}, impl.Hand{Reply: impl.RpOld, Out: 300}},
		{"look, at the key, gone", impl.Hand{Code: look, Key: 10, X: 1, Ver: 4}, impl.Hand{Reply: impl.RpNot}},
		{"look, below", impl.Hand{Code: look, Key: 30, X: 2, Ver: 2}, impl.Hand{At: 2, X: 3}},
		{"look, below, gone", impl.Hand{Code: look, Key: 20, X: 1, Ver: 4}, impl.Hand{At: 2, X: 2}},
		{"look, between", impl.Hand{Code: look, Key: 29, X: 2, Ver: 2}, impl.Hand{Reply: impl.RpNot}},
		{"look, past the last one", impl.Hand{Code: look, Key: 31, X: 3, Ver: 3}, impl.Hand{Reply: impl.RpNot}},
		{"look, ahead of all", impl.Hand{Code: look, Key: 19, X: 2, Ver: 2}, impl.Hand{Reply: impl.RpNot}},
		{"look, from the head", impl.Hand{Code: look, Key: 10, X: 0, Ver: 0}, impl.Hand{At: 2, X: 1}},
		{"look, from the head, ahead of all", impl.Hand{Code: look, Key: 9, X: 0, Ver: 0}, impl.Hand{Reply: impl.RpNot}},
		{"look, for no key, at the head", impl.Hand{Code: look, Key: -1, X: 0, Ver: 0}, impl.Hand{Reply: impl.RpNot}},
		{"look, of an empty list", impl.Hand{Code: look, Key: 10, X: 0, Ver: 3}, impl.Hand{Reply: impl.RpNot}},
		{"look, with a Value", impl.Hand{Code: look, Key: 10, Value: 63, X: 0, Ver: 2}, impl.Hand{Reply: impl.RpNot}},
		{"look, with an Out", impl.Hand{Code: look, Key: 20, X: 2, Ver: 2, Out: 5, Sum: 6}, impl.Hand{Reply: impl.RpOld, Out: 200}},
		{"look, with an Out, in vain", impl.Hand{Code: look, Key: 21, X: 2, Ver: 3, Out: 5, Sum: 6}, impl.Hand{Reply: impl.RpNot}},
		{"look, with an Out, on the way", impl.Hand{Code: look, Key: 40, X: 2, Ver: 2, Out: 5, Sum: 6}, impl.Hand{At: 2, X: 3, Out: 5, Sum: 6}},
		{"count, in it", impl.Hand{Code: count, Key: 10, Value: 30, X: 2, Ver: 2, Out: 5, Sum: 6}, impl.Hand{At: 2, X: 3, Out: 6, Sum: 206}},
		{"count, at its first key", impl.Hand{Code: count, Key: 20, Value: 30, X: 2, Ver: 2, Out: 5, Sum: 6}, impl.Hand{At: 2, X: 3, Out: 6, Sum: 206}},
		{"count, ahead of its first key", impl.Hand{Code: count, Key: 21, Value: 30, X: 2, Ver: 2, Out: 5, Sum: 6}, impl.Hand{At: 2, X: 3, Out: 5, Sum: 6}},
		{"count, at its last key", impl.Hand{Code: count, Key: 10, Value: 20, X: 2, Ver: 2, Out: 5, Sum: 6}, impl.Hand{Reply: impl.RpOk, Out: 6, Sum: 206}},
		{"count, past its last key", impl.Hand{Code: count, Key: 10, Value: 19, X: 2, Ver: 2, Out: 5, Sum: 6}, impl.Hand{Reply: impl.RpOk, Out: 5, Sum: 6}},
		{"count, up to ahead of the next", impl.Hand{Code: count, Key: 10, Value: 29, X: 2, Ver: 2, Out: 5, Sum: 6}, impl.Hand{Reply: impl.RpOk, Out: 6, Sum: 206}},
		{"count, at the end", impl.Hand{Code: count, Key: 10, Value: 63, X: 3, Ver: 3, Out: 5, Sum: 6}, impl.Hand{Reply: impl.RpOk, Out: 6, Sum: 306}},
		{"count, gone", impl.Hand{Code: count, Key: 10, Value: 63, X: 1, Ver: 4, Out: 5, Sum: 6}, impl.Hand{At: 2, X: 2, Out: 5, Sum: 6}},
		{"count, gone, the last one", impl.Hand{Code: count, Key: 10, Value: 19, X: 1, Ver: 4, Out: 5, Sum: 6}, impl.Hand{Reply: impl.RpOk, Out: 5, Sum: 6}},
		{"count, from the head", impl.Hand{Code: count, Key: 0, Value: 63, X: 0, Ver: 0}, impl.Hand{At: 2, X: 1}},
		{"count, of no key, at the head", impl.Hand{Code: count, Key: -1, Value: 63, X: 0, Ver: 0}, impl.Hand{At: 2, X: 1}},
		{"count, of an empty list", impl.Hand{Code: count, Key: 0, Value: 63, X: 0, Ver: 3}, impl.Hand{Reply: impl.RpOk}},
		{"count, the other way round", impl.Hand{Code: count, Key: 30, Value: 10, X: 2, Ver: 0}, impl.Hand{At: 2, X: 1}},
		{"count, up to the most", impl.Hand{Code: count, Key: 0, Value: 63, X: 3, Ver: 3, Out: 999999, Sum: 999700}, impl.Hand{Reply: impl.RpOk, Out: 1000000, Sum: 1000000}},
		{"count, past the most", impl.Hand{Code: count, Key: 0, Value: 63, X: 3, Ver: 3, Out: 1000000, Sum: 999701}, impl.Hand{Reply: impl.RpOk, Out: 1000000, Sum: 1000000}},
		{"count, past the most, on the way", impl.Hand{Code: count, Key: 0, Value: 63, X: 3, Ver: 0, Out: 1000000, Sum: 1000000}, impl.Hand{At: 2, X: 1, Out: 1000000, Sum: 1000000}},
	} {
		h := changed(sealHand(), func(h *impl.Hand) {
			h.Then, h.Held = impl.ThOld, 6
			h.Code, h.Key, h.Value, h.X, h.Ver, h.Out, h.Sum = c.give.Code, c.give.Key, c.give.Value, c.give.X, c.give.Ver, c.give.Out, c.give.Sum
		})
		want := replied(h, c.want.Reply, c.want.Out, c.want.Sum)
		if c.want.Reply == 0 {
			want = changed(h, func(h *impl.Hand) { h.At, h.X, h.Out, h.Sum = c.want.At, c.want.X, c.want.Out, c.want.Sum })
		}
		checkGoesOn(t, c.why, list, h, want)
	}
	for code := int64(impl.OpNone); code <= impl.OpCut; code++ {
		if code == look || code == count {
			continue
		}
		for x := int64(0); x <= 3; x++ {
			h := changed(sealHand(), func(h *impl.Hand) { h.Then, h.Held, h.Code, h.X, h.Key = impl.ThOld, 6, code, x, 10*x })
			checkGoesOn(t, "used with another code", list, h, changed(h, func(h *impl.Hand) { h.At = impl.AtRest }))
		}
	}
}

func TestSealStepAtHead(t *testing.T) {
	list := planned{sealPlan(), sealArena()}
	for x, head := range []int64{5, 4, 7, 6} {
		for then := int64(impl.ThNone); then <= impl.ThTrim; then++ {
			h := changed(sealHand(), func(h *impl.Hand) { h.At, h.Then, h.X = impl.AtHead, then, int64(x) })
			want := changed(h, func(h *impl.Hand) { h.Ver, h.At = head, impl.AtStamp })
			if d, is := impl.SealStep(list.p, list.a, 0, h, 9); !is || !sameDone(d, impl.Done{Arena: list.a, Hand: want}) {
				t.Errorf("X %d, then %d: %v %+v", x, then, is, d)
			}
		}
	}
}

func TestSealStepAtStampWithoutAStamp(t *testing.T) {
	list := planned{sealPlan(), sealArena()}
	for v := int64(5); v <= 9; v++ {
		for then := int64(impl.ThNone); then <= impl.ThTrim; then++ {
			h := changed(sealHand(), func(h *impl.Hand) { h.Then, h.Ver = then, v })
			want := changed(h, func(h *impl.Hand) { h.At = impl.AtCam })
			if d, is := impl.SealStep(list.p, list.a, 0, h, 9); !is || !sameDone(d, impl.Done{Arena: list.a, Hand: want}) {
				t.Errorf("version %d, then %d: %v %+v", v, then, is, d)
			}
		}
	}
}

func TestSealStepAtCam(t *testing.T) {
	list := planned{sealPlan(), sealArena()}
	for _, clock := range []int64{0, 1, 77, 20000} {
		for _, camera := range []int64{7, 8, 100} {
			for v := range int64(len(list.a.Vers)) {
				list.a.Camera = camera
				h := changed(sealHand(), func(h *impl.Hand) { h.At, h.Ver = impl.AtCam, v })
				want := changed(h, func(h *impl.Hand) { h.Cam, h.CamAt, h.At = camera, clock, impl.AtSeal })
				if d, is := impl.SealStep(list.p, list.a, 2, h, clock); !is || !sameDone(d, impl.Done{Arena: list.a, Hand: want}) {
					t.Errorf("clock %d, camera %d, version %d: %v %+v", clock, camera, v, is, d)
				}
			}
		}
	}
}

// What a version is stamped with, and the deed that is told of it; it goes on by ThLinked, which asks for nothing.
func TestSealStepAtSeal(t *testing.T) {
	list := planned{sealPlan(), sealArena()}
	for _, c := range []struct {
		why   string
		ver   int64
		x     int64
		cam   int64
		stamp int64
		deed  impl.Deed
	}{
		{"put", 5, 0, 6, 6, impl.Deed{Kind: impl.VrPut, Key: 10, Value: 100, Stamp: 6, Clock: 77}},
		{"put, X elsewhere", 5, 3, 6, 6, impl.Deed{Kind: impl.VrPut, Key: 10, Value: 100, Stamp: 6, Clock: 77}},
		{"put, no Next", 6, 3, 6, 6, impl.Deed{Kind: impl.VrPut, Key: -1, Value: 0, Stamp: 6, Clock: 77}},
		{"del", 7, 2, 6, 6, impl.Deed{Kind: impl.VrDel, Key: 20, Value: 200, Stamp: 6, Clock: 77}},
		{"del, X elsewhere", 7, 1, 6, 6, impl.Deed{Kind: impl.VrDel, Key: 10, Value: 100, Stamp: 6, Clock: 77}},
		{"del, X the head", 7, 0, 6, 6, impl.Deed{Kind: impl.VrDel, Key: -1, Value: 0, Stamp: 6, Clock: 77}},
		{"del, no Next", 9, 3, 6, 6, impl.Deed{Kind: impl.VrDel, Key: 30, Value: 300, Stamp: 6, Clock: 77}},
		{"none", 8, 1, 6, 6, impl.Deed{}},
		{"at stamp 0", 5, 0, 0, 0, impl.Deed{Kind: impl.VrPut, Key: 10, Value: 100, Stamp: 0, Clock: 77}},
		{"at the camera", 5, 0, 7, 7, impl.Deed{Kind: impl.VrPut, Key: 10, Value: 100, Stamp: 7, Clock: 77}},
		{"past the camera", 5, 0, 8, 7, impl.Deed{Kind: impl.VrPut, Key: 10, Value: 100, Stamp: 8, Clock: 77}},
		{"far past the camera", 7, 2, 100, 7, impl.Deed{Kind: impl.VrDel, Key: 20, Value: 200, Stamp: 100, Clock: 77}},
		{"none, past the camera", 8, 1, 8, 7, impl.Deed{}},
	} {
		h := changed(sealHand(), func(h *impl.Hand) { h.At, h.Then, h.Ver, h.X, h.Cam = impl.AtSeal, impl.ThLinked, c.ver, c.x, c.cam })
		want := impl.Done{Arena: sealArena(), Hand: changed(h, func(h *impl.Hand) { h.At = impl.AtPoint }), Deed: c.deed}
		want.Arena.Vers[c.ver].Stamp = c.stamp
		for _, clock := range []int64{0, 500, 20000} {
			if d, is := impl.SealStep(list.p, list.a, 0, h, clock); !is || !sameDone(d, want) {
				t.Errorf("%s, clock %d: %v\n%+v, not\n%+v", c.why, clock, is, d, want)
			}
		}
	}
}

// It goes on in the same step, by the stamp that the version has then: that of Cam, or of the camera where Cam is past it.
func TestSealStepGoesOnWithTheNewStamp(t *testing.T) {
	list := planned{sealPlan(), sealArena()}
	for _, c := range []struct {
		cam   int64
		bound int64 // Held, and Least
		at    int64 // where it goes to with ThTrim
	}{{4, 4, 23}, {5, 4, 22}, {3, 4, 23}, {0, 0, 23}, {1, 0, 22}, {7, 7, 23}, {8, 7, 23}, {100, 7, 23}, {8, 6, 22}, {100, 6, 22}, {6, 6, 23}} {
		h := changed(sealHand(), func(h *impl.Hand) {
			h.At, h.Ver, h.X, h.Cam, h.Held, h.Least = impl.AtSeal, 8, 2, c.cam, c.bound, c.bound
			h.Code, h.Key = impl.OpLook, 20
		})
		h.Then = impl.ThTrim
		if d, is := impl.SealStep(list.p, list.a, 0, h, 9); !is || d.Hand != changed(h, func(h *impl.Hand) { h.At = c.at }) {
			t.Errorf("Cam %d, Least %d: %v %+v", c.cam, c.bound, is, d.Hand)
		}
		h.Then = impl.ThOld
		want := changed(h, func(h *impl.Hand) { h.At = impl.AtBack })
		if c.at == 23 {
			want = replied(h, impl.RpOld, 200, 0)
		}
		if d, is := impl.SealStep(list.p, list.a, 0, h, 9); !is || d.Hand != want {
			t.Errorf("Cam %d, Held %d: %v %+v, not %+v", c.cam, c.bound, is, d.Hand, want)
		}
	}
	h := changed(sealHand(), func(h *impl.Hand) { h.At, h.Then, h.Ver, h.X, h.Held = impl.AtSeal, impl.ThOld, 8, 2, -1 })
	if d, is := impl.SealStep(list.p, list.a, 0, h, 9); !is || d.Hand.At != impl.AtBack {
		t.Errorf("nothing held: %v %+v", is, d.Hand)
	}
}

// A version that has its stamp keeps it, whatever Cam is, and nothing is told of it a second time.
func TestSealStepOfWhatHasAStamp(t *testing.T) {
	list := planned{sealPlan(), sealArena()}
	for v := int64(0); v <= 4; v++ {
		for _, cam := range []int64{0, 1, 4, 7, 8, 100} {
			h := changed(sealHand(), func(h *impl.Hand) { h.At, h.Then, h.Ver, h.Cam = impl.AtSeal, impl.ThMarked, v, cam })
			want := impl.Done{Arena: list.a, Hand: changed(h, func(h *impl.Hand) { h.At = impl.AtClean })}
			if d, is := impl.SealStep(list.p, list.a, 0, h, 9); !is || !sameDone(d, want) {
				t.Errorf("version %d, Cam %d: %v %+v", v, cam, is, d)
			}
		}
	}
}

func TestSealStepIsNotOfOtherStates(t *testing.T) {
	list := planned{sealPlan(), sealArena()}
	for at := int64(impl.AtRest); at <= impl.AtSnip; at++ {
		for then := int64(impl.ThNone); then <= impl.ThTrim; then++ {
			for _, v := range []int64{2, 5} {
				h := changed(sealHand(), func(h *impl.Hand) { h.At, h.Then, h.Ver = at, then, v })
				d, is := impl.SealStep(list.p, list.a, 0, h, 9)
				if !impl.Fit(list.p, list.a, 0, h, 9) || is != (at >= 2 && at <= 5) || !is && !reflect.DeepEqual(d, impl.Done{}) {
					t.Errorf("At %d, then %d: %v %+v", at, then, is, d)
				}
			}
		}
	}
}

// checkKeepsStamps asks for promise 7 of one step, without a word of what else the step should do.
func checkKeepsStamps(t *testing.T, list planned, h impl.Hand, clock int64) {
	t.Helper()
	was := cloneArena(list.a)
	d, is := impl.SealStep(list.p, list.a, 0, h, clock)
	if !is || d.Tick || !impl.ArenaOk(list.p, d.Arena) || !impl.HandOk(list.p, d.Hand) || !impl.Fit(list.p, d.Arena, 0, d.Hand, clock) {
		t.Fatalf("%+v\n%+v: %v %+v", was, h, is, d)
	}
	newly := int64(-1)
	for v := range was.Vers {
		if d.Arena.Vers[v].Stamp == was.Vers[v].Stamp {
			continue
		}
		if was.Vers[v].Stamp != -1 || newly != -1 || h.At != impl.AtSeal || int64(v) != h.Ver || d.Arena.Vers[v].Stamp != min(h.Cam, was.Camera) {
			t.Fatalf("%+v\n%+v: the version %d is stamped %d", was, h, v, d.Arena.Vers[v].Stamp)
		}
		newly = int64(v)
	}
	if (newly == -1) != (h.At != impl.AtSeal || was.Vers[h.Ver].Stamp != -1) {
		t.Fatalf("%+v\n%+v: stamped is %d", was, h, newly)
	}
	deed := newly != -1 && was.Vers[newly].Kind != impl.VrNone
	if (d.Deed != impl.Deed{}) != deed || deed && (d.Deed.Kind != was.Vers[newly].Kind || d.Deed.Stamp != h.Cam || d.Deed.Clock != h.CamAt) {
		t.Fatalf("%+v\n%+v: the deed %+v", was, h, d.Deed)
	}
	if newly != -1 {
		d.Arena.Vers[newly].Stamp = -1
	}
	if !sameArena(d.Arena, was) {
		t.Fatalf("%+v\n%+v: more is changed than a stamp: %+v", was, h, d.Arena)
	}
}

// Promise 7.
func TestAVersionThatIsStampedKeepsItsStamp(t *testing.T) {
	d := &dice{state: 7}
	for range 1500 {
		list := thrownArena(d)
		for at := int64(impl.AtHead); at <= impl.AtSeal; at++ {
			for then := int64(impl.ThNone); then <= impl.ThTrim; then++ {
				h := fitHand(d, list)
				h.At, h.Then = at, then
				checkKeepsStamps(t, list, h, d.throw(20001))
			}
		}
	}
	for _, list := range rightArenas() {
		for at := int64(impl.AtHead); at <= impl.AtSeal; at++ {
			for v := range int64(len(list.a.Vers)) {
				h := fitHand(d, list)
				h.At, h.Ver = at, v
				checkKeepsStamps(t, list, h, d.throw(20001))
			}
		}
	}
}

func TestSealStepsAsTheTablesTell(t *testing.T) {
	d := &dice{state: 77}
	for range 4000 {
		list := thrownArena(d)
		for range 10 {
			h := fitHand(d, list)
			h.At = 1 + d.throw(6)
			if h.Then != impl.ThOld && d.throw(2) == 0 {
				h.Code = 1 + d.throw(3)
			} else if h.Then == impl.ThOld && d.throw(4) != 0 {
				h.Code = impl.OpLook + d.throw(2)
			}
			checkSealStep(t, list, d.throw(list.p.Procs), h, d.throw(20001))
			stamped := list.a.Vers[h.Ver].Stamp != -1
			got, is := impl.WentOn(list.p, list.a, h)
			if is != stamped || is && got != slowWentOn(list.a, h) || !is && got != (impl.Hand{}) {
				t.Fatalf("%+v\n%+v: goes on: %v %+v", list.a, h, is, got)
			}
			for n := int64(-1); n < int64(len(list.a.Nodes)); n++ {
				if got, is := impl.WalkedTo(list.p, list.a, h, n); !is || got != slowWalked(list.a, h, n) {
					t.Fatalf("%+v\n%+v: walked to %d: %v %+v", list.a, h, n, is, got)
				}
			}
		}
	}
}

// ranToRest goes on by these steps alone, till the hand rests, or stands where another chapter's step is asked for.
func ranToRest(t *testing.T, list planned, h impl.Hand) impl.Hand {
	t.Helper()
	for clock := range int64(1000) {
		d, is := impl.SealStep(list.p, list.a, 0, h, clock)
		if !is {
			return h
		}
		list.a, h = d.Arena, d.Hand
	}
	t.Fatalf("%+v\n%+v: it does not come to an end", list.a, h)
	return h
}

// Where nobody is gone, and all was stamped ahead of the picture, finding and looking back need no other steps than these.
func TestSealStepsFindAndLookBack(t *testing.T) {
	list := plainArena(2, 3, 4, -1, 1)
	for i, n := range []int64{2, 4, 1, 3} {
		list.a.Nodes[n].Key, list.a.Nodes[n].Value = 10+10*int64(i), 7+n
	}
	pairs := impl.PairsNow(list.p, list.a)
	if len(pairs) != 4 || !impl.InOrder(pairs) {
		t.Fatal(pairs)
	}
	for key := int64(0); key <= impl.MaxKey; key++ {
		value, there := int64(0), false
		count, sum := int64(0), int64(0)
		for _, pair := range pairs {
			if pair.Key == key {
				value, there = pair.Value, true
			}
			if pair.Key >= key && pair.Key <= 35 {
				count, sum = count+1, sum+pair.Value
			}
		}
		want := impl.Hand{Reply: impl.RpNot}
		if there {
			want = impl.Hand{Reply: impl.RpOld, Out: value}
		}
		get := impl.Hand{At: impl.AtHead, Then: impl.ThStart, Code: impl.OpGet, Key: key, Held: -1, Curr: -1, New: -1}
		if h := ranToRest(t, list, get); h != replied(get, want.Reply, want.Out, 0) {
			t.Errorf("get %d: %+v", key, h)
		}
		look, _ := impl.Called(list.p, impl.Resting(impl.Hand{Held: 0}, 0, 0, 0), impl.OpLook, key, 0)
		if h := ranToRest(t, list, look); h != replied(look, want.Reply, want.Out, 0) {
			t.Errorf("look %d: %+v", key, h)
		}
		tell, _ := impl.Called(list.p, impl.Resting(impl.Hand{Held: 0}, 0, 0, 0), impl.OpCount, key, 35)
		if h := ranToRest(t, list, tell); h != replied(tell, impl.RpOk, count, sum) {
			t.Errorf("count from %d: %+v, not %d, %d", key, h, count, sum)
		}
	}
}

// checkUnfit asks that all refuse. Me and clock are asked by Fit and SealStep alone: the two others take 0 for them.
func checkUnfit(t *testing.T, why string, list planned, me int64, h impl.Hand, clock int64, others bool) {
	t.Helper()
	if impl.Fit(list.p, list.a, me, h, clock) {
		t.Errorf("%s: it is fit", why)
	}
	for at := int64(impl.AtHead); at <= impl.AtSeal; at++ {
		k := h
		if within := h.At >= impl.AtRest && h.At <= impl.AtSnip; within {
			k.At = at
		}
		if d, is := impl.SealStep(list.p, list.a, me, k, clock); is || !reflect.DeepEqual(d, impl.Done{}) {
			t.Errorf("%s: the step At %d: %v %+v", why, k.At, is, d)
		}
	}
	if !others {
		return
	}
	if k, is := impl.WentOn(list.p, list.a, h); is || k != (impl.Hand{}) {
		t.Errorf("%s: it goes on: %+v", why, k)
	}
	for _, n := range []int64{-1, 0, 1, 4} {
		if k, is := impl.WalkedTo(list.p, list.a, h, n); is || k != (impl.Hand{}) {
			t.Errorf("%s: it walks to %d: %+v", why, n, k)
		}
	}
}

func TestFitOfTheProcessAndTheClock(t *testing.T) {
	list := planned{sealPlan(), sealArena()}
	h := sealHand()
	for me := int64(0); me <= 2; me++ {
		for _, clock := range []int64{0, 1, 19999, 20000} {
			if _, is := impl.SealStep(list.p, list.a, me, h, clock); !is || !impl.Fit(list.p, list.a, me, h, clock) {
				t.Errorf("process %d, clock %d: refused", me, clock)
			}
		}
	}
	for _, me := range append(farOut(), 3, 4, 8) {
		checkUnfit(t, "process", list, me, h, 0, false)
	}
	for _, clock := range append(farOut(), 20001, 20002) {
		if clock < 0 || clock > 20000 {
			checkUnfit(t, "clock", list, 0, h, clock, false)
		}
	}
}

func TestFitOfPlansAndArenas(t *testing.T) {
	h, right := sealHand(), sealArena()
	for _, p := range wrongPlans() {
		checkUnfit(t, "plan", planned{p, right}, 0, h, 0, true)
		checkUnfit(t, "plan, and the rest of nothing", planned{p, impl.Arena{}}, 0, impl.Hand{}, 0, true)
	}
	for field, most := range [4]int64{4, 3, 9, 3} {
		checkUnfit(t, "another plan", planned{withField(sealPlan(), field, most), right}, 0, h, 0, true)
	}
	eachWrongNumber(right, func(wrong impl.Arena, name string) {
		checkUnfit(t, name, planned{sealPlan(), wrong}, 0, h, 0, true)
	})
	for _, camera := range append(farOut(), 5, 101) {
		wrong := sealArena()
		if wrong.Camera = camera; camera < 6 || camera > 100 {
			checkUnfit(t, "camera", planned{sealPlan(), wrong}, 0, h, 0, true)
		}
	}
	checkUnfit(t, "no arena", planned{sealPlan(), impl.Arena{}}, 0, h, 0, true)
	checkUnfit(t, "no arena", planned{sealPlan(), impl.Arena{}}, 0, impl.NewHand(), 0, true)
}

func TestFitOfHands(t *testing.T) {
	list := planned{sealPlan(), sealArena()}
	for _, place := range handPlaces(list.p) {
		for _, n := range append(farOut(), place.least-1, place.most+1) {
			h := sealHand()
			if *place.field(&h) = n; n < place.least || n > place.most {
				checkUnfit(t, place.name, list, 0, h, 0, true)
			}
		}
	}
}

// The plan has room for more nodes and versions than there are: those are no places for a hand.
func TestFitOfNodesAndVersionsThatAreThere(t *testing.T) {
	list := planned{sealPlan(), sealArena()}
	there := map[string]int64{"X": 3, "Pred": 3, "Curr": 3, "New": 3, "Ver": 9, "PredVer": 9, "CurrVer": 9}
	for _, place := range handPlaces(list.p) {
		last, named := there[place.name]
		if !named {
			continue
		}
		for n := place.least; n <= last; n++ {
			h := sealHand()
			*place.field(&h) = n
			_, walks := impl.WalkedTo(list.p, list.a, h, 1)
			_, steps := impl.SealStep(list.p, list.a, 0, h, 0)
			_, goes := impl.WentOn(list.p, list.a, h)
			if !impl.Fit(list.p, list.a, 0, h, 0) || !walks || !steps || goes != (place.name != "Ver" || n <= 4) {
				t.Errorf("%s %d: refused", place.name, n)
			}
		}
		for n := last + 1; n <= place.most; n++ {
			h := sealHand()
			if *place.field(&h) = n; !impl.HandOk(list.p, h) {
				t.Fatal(place.name, n)
			}
			checkUnfit(t, place.name, list, 0, h, 0, true)
		}
	}
	blank := planned{sealPlan(), impl.BlankArena(sealPlan())}
	if !impl.Fit(blank.p, blank.a, 0, impl.NewHand(), 0) || !impl.Fit(blank.p, blank.a, 2, impl.Hand{}, 20000) {
		t.Error("new hands are not fit for a blank arena")
	}
	checkUnfit(t, "blank", blank, 0, changed(impl.NewHand(), func(h *impl.Hand) { h.X = 1 }), 0, true)
}

func TestFitOfAllDrawn(t *testing.T) {
	d := &dice{state: 777}
	for range 10000 {
		list := thrownArena(d)
		h := thrownHand(d, list.p)
		if d.throw(2) == 0 {
			h = fitHand(d, list)
		}
		me, clock := d.throw(list.p.Procs+2)-1, d.throw(20003)-1
		nodes, vers := int64(len(list.a.Nodes)), int64(len(list.a.Vers))
		want := me >= 0 && me < list.p.Procs && clock >= 0 && clock <= 20000 &&
			max(h.X, h.Pred, h.Curr, h.New) < nodes && max(h.Ver, h.PredVer, h.CurrVer) < vers
		if impl.Fit(list.p, list.a, me, h, clock) != want {
			t.Fatalf("%+v\n%+v, process %d, clock %d: not %v", list.a, h, me, clock, want)
		}
	}
}

func TestSealArgumentsStay(t *testing.T) {
	d := &dice{state: 7777}
	for range 600 {
		list := thrownArena(d)
		list.a = roomy(list.a)
		whole := cloneArena(wholeArena(list.a))
		for at := int64(impl.AtHead); at <= impl.AtSeal; at++ {
			h := fitHand(d, list)
			h.At = at
			was := h
			first, _ := impl.SealStep(list.p, list.a, 0, h, 9)
			impl.WentOn(list.p, list.a, h)
			impl.WalkedTo(list.p, list.a, h, -1)
			impl.WalkedTo(list.p, list.a, h, 0)
			impl.Fit(list.p, list.a, 0, h, 9)
			impl.SealStep(impl.Plan{}, list.a, 0, h, 9)
			if h != was || !reflect.DeepEqual(cloneArena(wholeArena(list.a)), whole) {
				t.Fatalf("%+v was written into", list.a)
			}
			if again, _ := impl.SealStep(list.p, list.a, 0, h, 9); !sameDone(first, again) {
				t.Fatalf("%+v\n%+v: another answer", list.a, h)
			}
		}
	}
}

func TestSealStepsShareNothing(t *testing.T) {
	p := sealPlan()
	for at := int64(impl.AtHead); at <= impl.AtSeal; at++ {
		for _, v := range []int64{2, 5} {
			h := changed(sealHand(), func(h *impl.Hand) { h.At, h.Ver = at, v })
			a := roomy(sealArena())
			whole := cloneArena(wholeArena(a))
			first, _ := impl.SealStep(p, a, 0, h, 9)
			second, _ := impl.SealStep(p, a, 0, h, 9)
			want := cloneArena(second.Arena)
			checkApart(t, [][]int64{first.Arena.Slots, first.Arena.Guides}, 55)
			scribble(wholeArena(first.Arena))
			if !sameArena(second.Arena, want) || !sameArena(cloneArena(wholeArena(a)), whole) {
				t.Errorf("At %d: what is written into one answer is elsewhere", at)
			}
			scribble(wholeArena(a))
			if !sameArena(second.Arena, want) {
				t.Errorf("At %d: what is written into the argument is in the answer", at)
			}
		}
	}
}
