package tests

import (
	"math/rand/v2"
	"slices"
	"testing"

	"loop.example/tappet/impl"
)

// The document's chapter 1 once more, as slowly as its words go: every fault of a plan is told, and the first is picked afterwards.

func modelFault(p impl.Plan) impl.Fault {
	var all []impl.Fault
	if p.Sections < 1 || p.Sections > 60 || p.Hold < 1 || p.Hold > 300 || len(p.Switches) > 40 || len(p.Ways) > 100 {
		all = append(all, fault(1, 0))
	}
	for k, section := range p.Switches {
		if section < 0 || section >= p.Sections {
			all = append(all, fault(2, k))
		}
	}
	for i := range p.Ways {
		if modelWayWrong(p, p.Ways[i]) {
			all = append(all, fault(3, i))
		}
	}
	if len(p.Bars) != len(p.Ways) {
		all = append(all, fault(4, 0))
	}
	for i := range p.Bars {
		if len(p.Bars[i]) != len(p.Ways) {
			all = append(all, fault(4, i))
		}
	}
	for i := range p.Ways {
		for k := range p.Ways {
			if modelPairWrong(p, i, k) {
				all = append(all, fault(5, i))
			}
		}
	}
	if len(all) == 0 {
		return fault(0, 0)
	}
	return slices.MinFunc(all, func(a, b impl.Fault) int {
		if a.Code != b.Code {
			return a.Code - b.Code
		}
		return a.At - b.At
	})
}

func modelWayWrong(p impl.Plan, w impl.Way) bool {
	wrong := len(w.Sections) == 0 || len(w.Lies) > 30 || len(w.Flanks) > 30
	for _, list := range [][]int{w.Sections, w.Over, w.Near} {
		wrong = wrong || len(list) > 30
		for at, section := range list {
			wrong = wrong || section < 0 || section >= p.Sections || slices.Contains(list[:at], section)
		}
	}
	for _, section := range w.Over {
		wrong = wrong || slices.Contains(w.Sections, section)
	}
	count := map[int]int{}
	for _, l := range slices.Concat(w.Lies, w.Flanks) {
		count[l.Switch]++
		wrong = wrong || l.Switch < 0 || l.Switch >= len(p.Switches) || l.Lie != 1 && l.Lie != 2 || count[l.Switch] > 1
	}
	for _, l := range w.Lies {
		there := l.Switch >= 0 && l.Switch < len(p.Switches)
		wrong = wrong || there && !slices.Contains(w.Sections, p.Switches[l.Switch])
	}
	return wrong
}

func modelPairWrong(p impl.Plan, i, k int) bool {
	at := func(row, place int) bool {
		return row < len(p.Bars) && place < len(p.Bars[row]) && p.Bars[row][place]
	}
	common := slices.ContainsFunc(p.Ways[i].Sections, func(s int) bool { return slices.Contains(p.Ways[k].Sections, s) })
	return at(i, k) != at(k, i) || i != k && common && !at(i, k)
}

// someOf takes some of the numbers below n, in any order, each at most once.
func someOf(r *rand.Rand, n, most int) []int {
	list := r.Perm(n)
	return list[:r.IntN(min(n, most)+1)]
}

// drawnPlan is right: sections and switches are dealt out as the document asks.
func drawnPlan(r *rand.Rand) impl.Plan {
	p := impl.Plan{Sections: 1 + r.IntN(60), Hold: 1 + r.IntN(300)}
	for range r.IntN(41) {
		p.Switches = append(p.Switches, r.IntN(p.Sections))
	}
	addWays(r, &p, r.IntN(8))
	return p
}

// addWays deals out so many ways; those with a section in common exclude each other.
func addWays(r *rand.Rand, p *impl.Plan, ways int) {
	p.Bars = squareOf(ways, false)
	for range ways {
		p.Ways = append(p.Ways, drawnWay(r, *p))
	}
	for i := range ways {
		for k := range i + 1 {
			common := slices.ContainsFunc(p.Ways[i].Sections, func(s int) bool { return slices.Contains(p.Ways[k].Sections, s) })
			p.Bars[i][k] = i != k && common || r.IntN(2) == 0
			p.Bars[k][i] = p.Bars[i][k]
		}
	}
}

func drawnWay(r *rand.Rand, p impl.Plan) impl.Way {
	order := r.Perm(p.Sections)
	on := 1 + r.IntN(min(4, p.Sections))
	over := on + r.IntN(min(3, p.Sections-on)+1)
	w := impl.Way{Sections: order[:on:on], Over: order[on:over:over], Near: someOf(r, p.Sections, 30)}
	for _, k := range someOf(r, len(p.Switches), 30) {
		l := impl.Lie{Switch: k, Lie: 1 + r.IntN(2)}
		if slices.Contains(w.Sections, p.Switches[k]) && r.IntN(4) > 0 {
			w.Lies = append(w.Lies, l)
		} else {
			w.Flanks = append(w.Flanks, l)
		}
	}
	return w
}

// around is a number of interest beside a limit: in it, just in it, just past it, or far off.
func around(r *rand.Rand, limit int) int {
	limit = min(max(limit, 0), 300) // a plan that was disturbed before may have any size
	far := farOff()
	return []int{r.IntN(limit + 1), 0, -1, limit - 1, limit, limit + 1, far[r.IntN(len(far))]}[r.IntN(7)]
}

// disturb changes one thing of the plan; often that makes it wrong, not always.
func disturb(r *rand.Rand, p *impl.Plan) {
	if r.IntN(12) == 0 {
		p.Sections = around(r, 60)
	}
	if r.IntN(12) == 0 {
		p.Hold = around(r, 300)
	}
	if len(p.Switches) > 0 && r.IntN(4) == 0 {
		p.Switches[r.IntN(len(p.Switches))] = around(r, p.Sections)
	}
	if len(p.Ways) > 0 && r.IntN(2) == 0 {
		disturbWay(r, *p, &p.Ways[r.IntN(len(p.Ways))])
	}
	if len(p.Bars) > 0 && r.IntN(2) == 0 {
		disturbBars(r, p)
	}
}

func disturbWay(r *rand.Rand, p impl.Plan, w *impl.Way) {
	list := []*[]int{&w.Sections, &w.Over, &w.Near}[r.IntN(3)]
	lies := []*[]impl.Lie{&w.Lies, &w.Flanks}[r.IntN(2)]
	switch r.IntN(7) {
	case 0:
		*list = nil
	case 1:
		*list = append(slices.Clone(*list), around(r, p.Sections))
	case 2:
		*list = r.Perm(28 + r.IntN(6))
	case 3:
		*lies = append(slices.Clone(*lies), impl.Lie{Switch: around(r, len(p.Switches)), Lie: 1 + r.IntN(2)})
	case 4:
		*lies = append(slices.Clone(*lies), impl.Lie{Switch: r.IntN(len(p.Switches) + 1), Lie: around(r, 2)})
	case 5:
		w.Lies, w.Flanks = w.Flanks, w.Lies
	case 6:
		*lies = liesOf(r.IntN(3), 28+r.IntN(6))
	}
}

func disturbBars(r *rand.Rand, p *impl.Plan) {
	i := r.IntN(len(p.Bars))
	row := p.Bars[i]
	switch r.IntN(9) {
	case 0:
		p.Bars = p.Bars[:i]
	case 1:
		p.Bars = append(p.Bars, slices.Clone(row))
	case 2:
		p.Bars[i] = row[:r.IntN(len(row)+1)]
	case 3:
		p.Bars[i] = append(slices.Clone(row), true)
	case 4:
		if len(row) > 0 {
			k := r.IntN(len(row))
			row[k] = !row[k]
		}
	case 5:
		if len(row) > i {
			row[i] = !row[i]
		}
	default:
		k := r.IntN(len(p.Bars))
		if len(row) > k && len(p.Bars[k]) > i {
			row[k], p.Bars[k][i] = false, false
		}
	}
}

func TestPlanAsTheModel(t *testing.T) {
	r := rand.New(rand.NewPCG(1, 2026))
	var seen [6]int
	for range 60000 {
		p := drawnPlan(r)
		if got := impl.PlanOk(p); got != fault(0, 0) {
			t.Fatalf("a right plan: %v of %+v", got, p)
		}
		for range 1 + r.IntN(3) {
			disturb(r, &p)
		}
		want := modelFault(p)
		seen[want.Code]++
		if got := impl.PlanOk(p); got != want {
			t.Fatalf("got %v, want %v of %+v", got, want, p)
		}
	}
	for code, count := range seen {
		if count < 1000 {
			t.Errorf("code %d was drawn only %d times", code, count)
		}
	}
}
