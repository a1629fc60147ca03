package impl

const MaxProcs = 8
const MaxNodes = 60
const MaxVers = 400
const MaxGuides = 8
const MaxKey = 63
const MaxValue = 9999
const MaxStamp = 100

type Plan struct {
	Procs  int64
	Nodes  int64
	Vers   int64
	Guides int64
}

func PlanOk(p Plan) bool { return p.right() }

func KeyOk(key int64) bool { return within(key, 0, MaxKey) }

func ProcIn(p Plan, n int64) bool { return p.right() && within(n, 0, p.Procs-1) }

func GuideOf(p Plan, key int64) int64 { return p.toldOf(key, p.guideAsked) }

func PointOf(p Plan, key int64) int64 { return p.toldOf(key, p.guidePointing) }

func within(n int64, least int64, most int64) bool { return least <= n && n <= most }

func (p Plan) right() bool {
	return within(p.Procs, 1, MaxProcs) && within(p.Nodes, 1, MaxNodes) &&
		within(p.Vers, 1, MaxVers) && within(p.Guides, 1, MaxGuides)
}

// toldOf asks only where plan and key are right, so that tell may reckon without a check or an overflow.
func (p Plan) toldOf(key int64, tell func(key int64) int64) int64 {
	if !p.right() || !KeyOk(key) {
		return -1
	}
	return tell(key)
}

// guideAsked is the guide ahead of the one that may point to the key itself, or to one past it.
func (p Plan) guideAsked(key int64) int64 { return p.guidePointing(key) - 1 }

func (p Plan) guidePointing(key int64) int64 { return key * p.Guides / (MaxKey + 1) }
