package tests

import (
	"math"
	"testing"

	"loop.example/g00715/impl"
)

// farOut are numbers on which a careless sum or product would wrap round, or a careless check would let pass.
func farOut() []int64 {
	return []int64{math.MinInt64, math.MinInt64 + 1, math.MinInt64 / 8, -1 << 32, -65, -64, -2, -1,
		64, 65, 401, 1 << 32, 1<<32 + 1, math.MaxInt64/8 + 1, math.MaxInt64 - 1, math.MaxInt64}
}

// rightPlans are all that differ in Guides, each with the least and the most of all else.
func rightPlans() []impl.Plan {
	var list []impl.Plan
	for _, procs := range []int64{1, 2, impl.MaxProcs} {
		for _, nodes := range []int64{1, impl.MaxNodes} {
			for _, vers := range []int64{1, impl.MaxVers} {
				for guides := int64(1); guides <= impl.MaxGuides; guides++ {
					list = append(list, impl.Plan{Procs: procs, Nodes: nodes, Vers: vers, Guides: guides})
				}
			}
		}
	}
	return list
}

// withField is p with the number of one field in its place; fields are numbered as they stand.
func withField(p impl.Plan, field int, n int64) impl.Plan {
	switch field {
	case 0:
		p.Procs = n
	case 1:
		p.Nodes = n
	case 2:
		p.Vers = n
	default:
		p.Guides = n
	}
	return p
}

// fieldLimits are the most of each field, as the document tells them, by withField's numbers.
func fieldLimits() [4]int64 { return [4]int64{8, 60, 400, 8} }

// wrongPlans are the zero Plan, and right ones of which one field, or all of them, are wrong.
func wrongPlans() []impl.Plan {
	list := []impl.Plan{{}, {Procs: -1, Nodes: -1, Vers: -1, Guides: -1}, {Procs: 9, Nodes: 61, Vers: 401, Guides: 9}}
	p := impl.Plan{Procs: 2, Nodes: 10, Vers: 30, Guides: 4}
	for field, most := range fieldLimits() {
		list = append(list, withField(p, field, 0), withField(p, field, most+1))
		for _, n := range farOut() {
			if n < 1 || n > most {
				list = append(list, withField(p, field, n))
			}
		}
	}
	for _, n := range farOut() {
		list = append(list, impl.Plan{Procs: n, Nodes: n, Vers: n, Guides: n})
	}
	return list
}

// slowPoint counts how often MaxKey and 1 goes into the key times guides, so that no division is trusted.
func slowPoint(guides int64, key int64) int64 {
	n := int64(0)
	for left := key * guides; left >= 64; left -= 64 {
		n++
	}
	return n
}

func TestLimitsAreTheDocuments(t *testing.T) {
	got := [7]int64{impl.MaxProcs, impl.MaxNodes, impl.MaxVers, impl.MaxGuides, impl.MaxKey, impl.MaxValue, impl.MaxStamp}
	if got != [7]int64{8, 60, 400, 8, 63, 9999, 100} {
		t.Fatal(got)
	}
}

func TestPlanLimitsMetAndPassed(t *testing.T) {
	low := impl.Plan{Procs: 1, Nodes: 1, Vers: 1, Guides: 1}
	high := impl.Plan{Procs: 8, Nodes: 60, Vers: 400, Guides: 8}
	for _, p := range []impl.Plan{low, high} {
		for field, most := range fieldLimits() {
			for _, n := range []int64{1, 2, most - 1, most} {
				if q := withField(p, field, n); !impl.PlanOk(q) {
					t.Errorf("%+v is refused", q)
				}
			}
			for _, n := range []int64{-1, 0, most + 1} {
				if q := withField(p, field, n); impl.PlanOk(q) {
					t.Errorf("%+v is accepted", q)
				}
			}
		}
	}
}

func TestPlanOkOfAllRightAndWrong(t *testing.T) {
	for _, p := range rightPlans() {
		if !impl.PlanOk(p) {
			t.Errorf("%+v is refused", p)
		}
	}
	for _, p := range wrongPlans() {
		if impl.PlanOk(p) {
			t.Errorf("%+v is accepted", p)
		}
	}
}

func TestKeyOk(t *testing.T) {
	for key := int64(-200); key <= 200; key++ {
		if want := key >= 0 && key <= 63; impl.KeyOk(key) != want {
			t.Errorf("key %d: not %v", key, want)
		}
	}
	for _, key := range farOut() {
		if impl.KeyOk(key) {
			t.Errorf("key %d is accepted", key)
		}
	}
}

func TestProcIn(t *testing.T) {
	for _, p := range rightPlans() {
		for n := int64(-2); n <= 10; n++ {
			if want := n >= 0 && n < p.Procs; impl.ProcIn(p, n) != want {
				t.Errorf("%+v, process %d: not %v", p, n, want)
			}
		}
		for _, n := range farOut() {
			if impl.ProcIn(p, n) {
				t.Errorf("%+v has a process %d", p, n)
			}
		}
	}
}

func TestProcInOfWrongPlans(t *testing.T) {
	for _, p := range wrongPlans() {
		for _, n := range append(farOut(), 0, 1, 2, 7, p.Procs, p.Procs-1) {
			if impl.ProcIn(p, n) {
				t.Errorf("%+v has a process %d", p, n)
			}
		}
	}
}

// Promise 1. The second count keeps it from being held by asking no guide at all.
func TestGuideAskedPointsBelow(t *testing.T) {
	for _, p := range rightPlans() {
		asked := 0
		for key := int64(0); key <= impl.MaxKey; key++ {
			g := impl.GuideOf(p, key)
			if g < -1 || g >= p.Guides {
				t.Fatalf("%+v, key %d: there is no guide %d", p, key, g)
			}
			if g == -1 {
				continue
			}
			asked++
			for other := int64(0); other <= impl.MaxKey; other++ {
				if impl.PointOf(p, other) == g && other >= key {
					t.Errorf("%+v: guide %d, asked for %d, may point to %d", p, g, key, other)
				}
			}
		}
		if (asked > 0) != (p.Guides > 1) {
			t.Errorf("%+v: a guide is asked for %d keys", p, asked)
		}
	}
}

func TestGuideOfAndPointOfOfAllKeys(t *testing.T) {
	for _, p := range rightPlans() {
		for key := int64(0); key <= impl.MaxKey; key++ {
			want := slowPoint(p.Guides, key)
			if got := impl.PointOf(p, key); got != want {
				t.Errorf("%+v, key %d: PointOf is %d, not %d", p, key, got, want)
			}
			if got := impl.GuideOf(p, key); got != want-1 {
				t.Errorf("%+v, key %d: GuideOf is %d, not %d", p, key, got, want-1)
			}
		}
	}
}

func TestGuidesAtTheEdges(t *testing.T) {
	for _, c := range []struct{ guides, key, point, guide int64 }{
		{1, 0, 0, -1}, {1, 63, 0, -1},
		{2, 31, 0, -1}, {2, 32, 1, 0}, {2, 63, 1, 0},
		{3, 21, 0, -1}, {3, 22, 1, 0}, {3, 42, 1, 0}, {3, 43, 2, 1}, {3, 63, 2, 1},
		{8, 0, 0, -1}, {8, 7, 0, -1}, {8, 8, 1, 0}, {8, 55, 6, 5}, {8, 56, 7, 6}, {8, 63, 7, 6},
		{8, 64, -1, -1}, {8, -1, -1, -1}, {1, 64, -1, -1}, {1, -1, -1, -1},
	} {
		p := impl.Plan{Procs: 1, Nodes: 1, Vers: 1, Guides: c.guides}
		if impl.PointOf(p, c.key) != c.point || impl.GuideOf(p, c.key) != c.guide {
			t.Errorf("%+v: PointOf is %d, GuideOf is %d", c, impl.PointOf(p, c.key), impl.GuideOf(p, c.key))
		}
	}
}

func TestGuidesOfNoKey(t *testing.T) {
	for _, p := range rightPlans() {
		for _, key := range farOut() {
			if impl.PointOf(p, key) != -1 || impl.GuideOf(p, key) != -1 {
				t.Errorf("%+v has a guide for %d", p, key)
			}
		}
	}
}

func TestGuidesOfWrongPlans(t *testing.T) {
	for _, p := range wrongPlans() {
		for _, key := range append(farOut(), 0, 1, 3, 16, 62, 63) {
			if impl.PointOf(p, key) != -1 || impl.GuideOf(p, key) != -1 {
				t.Errorf("%+v has a guide for %d", p, key)
			}
		}
	}
}
