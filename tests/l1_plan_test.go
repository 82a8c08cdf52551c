package tests

import (
	"math"
	"reflect"
	"testing"

	"loop.example/tappet/impl"
)

// The station of most tests: five sections, a switch in 1 and one in 3, four ways.
// Ways 0 and 1 part at switch 0, ways 2 and 3 share section 4; ways 1 and 2 are barred though they share nothing.
func station() impl.Plan {
	return impl.Plan{
		Sections: 5,
		Switches: []int{1, 3},
		Ways: []impl.Way{
			{Sections: []int{0, 1, 2}, Lies: []impl.Lie{{Switch: 0, Lie: 1}}, Flanks: []impl.Lie{{Switch: 1, Lie: 2}}, Over: []int{3}, Near: []int{4}},
			{Sections: []int{0, 1}, Lies: []impl.Lie{{Switch: 0, Lie: 2}}, Near: []int{4, 0}},
			{Sections: []int{4, 3}, Lies: []impl.Lie{{Switch: 1, Lie: 1}}, Over: []int{2, 1}, Near: []int{2, 4}},
			{Sections: []int{4}, Flanks: []impl.Lie{{Switch: 0, Lie: 1}, {Switch: 1, Lie: 1}}},
		},
		Bars: [][]bool{
			{false, true, false, false},
			{true, true, true, false},
			{false, true, false, true},
			{false, false, true, false},
		},
		Hold: 7,
	}
}

// lone is a plan of the greatest number of sections and switches, all of these in section 0, with one way.
func lone(w impl.Way) impl.Plan {
	return impl.Plan{
		Sections: impl.MaxSections,
		Switches: make([]int, impl.MaxSwitches),
		Ways:     []impl.Way{w},
		Bars:     [][]bool{{false}},
		Hold:     1,
	}
}

func fault(code, at int) impl.Fault { return impl.Fault{Code: code, At: at} }

func wantFault(t *testing.T, what string, p impl.Plan, want impl.Fault) {
	t.Helper()
	if got := impl.PlanOk(p); got != want {
		t.Errorf("%s: got %v, want %v", what, got, want)
	}
}

type spoiled struct {
	what  string
	spoil func(p *impl.Plan)
	want  impl.Fault
}

func testSpoiled(t *testing.T, cases []spoiled) {
	t.Helper()
	for _, c := range cases {
		p := station()
		c.spoil(&p)
		wantFault(t, c.what, p, c.want)
	}
}

func span(from, count int) []int {
	list := make([]int, count)
	for i := range list {
		list[i] = from + i
	}
	return list
}

func liesOf(from, count int) []impl.Lie {
	list := make([]impl.Lie, count)
	for i := range list {
		list[i] = impl.Lie{Switch: from + i, Lie: 1 + i%2}
	}
	return list
}

func squareOf(n int, value bool) [][]bool {
	rows := make([][]bool, n)
	for i := range rows {
		rows[i] = make([]bool, n)
		for k := range rows[i] {
			rows[i][k] = value
		}
	}
	return rows
}

// farOff are numbers that are never a section, a switch or a lie; some of them look like one when they are cut to fewer bits.
func farOff() []int {
	return []int{-1, -2, -32, -60, -64, 60, 61, 63, 64, 256, 1 << 32, 1<<32 + 1, math.MinInt, math.MinInt + 1, math.MinInt32, math.MaxInt, math.MaxInt32}
}

func TestPlanLimitsAreTheDocuments(t *testing.T) {
	got := [5]int{impl.MaxSections, impl.MaxSwitches, impl.MaxWays, impl.MaxOf, impl.MaxHold}
	if got != [5]int{60, 40, 100, 30, 300} {
		t.Error(got)
	}
}

func TestPlanRight(t *testing.T) {
	testSpoiled(t, []spoiled{
		{"the station", func(p *impl.Plan) {}, fault(0, 0)},
		{"no ways, no rows", func(p *impl.Plan) { p.Ways, p.Bars = nil, nil }, fault(0, 0)},
		{"empty lists for missing ones", func(p *impl.Plan) { p.Ways, p.Bars = []impl.Way{}, [][]bool{} }, fault(0, 0)},
		{"no switches", func(p *impl.Plan) {
			p.Switches = nil
			for i := range p.Ways {
				p.Ways[i].Lies, p.Ways[i].Flanks = nil, nil
			}
		}, fault(0, 0)},
		{"empty lists of a way", func(p *impl.Plan) {
			p.Ways[3] = impl.Way{Sections: []int{4}, Lies: []impl.Lie{}, Flanks: []impl.Lie{}, Over: []int{}, Near: []int{}}
		}, fault(0, 0)},
		{"sections of no way, switches of no way", func(p *impl.Plan) { p.Sections = 9; p.Switches = []int{1, 3, 8, 8} }, fault(0, 0)},
		{"sections out of order", func(p *impl.Plan) { p.Ways[0].Sections = []int{2, 0, 1} }, fault(0, 0)},
		{"a section both in Sections and Near", func(p *impl.Plan) { p.Ways[0].Near = []int{2, 1, 0} }, fault(0, 0)},
		{"a section both in Over and Near", func(p *impl.Plan) { p.Ways[0].Over = []int{3, 4} }, fault(0, 0)},
		{"a switch beside a way in one of its sections", func(p *impl.Plan) {
			p.Ways[0].Lies, p.Ways[0].Flanks = nil, []impl.Lie{{Switch: 0, Lie: 2}}
		}, fault(0, 0)},
		{"a switch on a way that no list of it names", func(p *impl.Plan) { p.Ways[0].Lies = nil }, fault(0, 0)},
		{"two switches in one section", func(p *impl.Plan) {
			p.Switches = []int{1, 1}
			p.Ways[0].Lies, p.Ways[0].Flanks = []impl.Lie{{Switch: 1, Lie: 1}, {Switch: 0, Lie: 2}}, nil
			p.Ways[2].Lies, p.Ways[2].Flanks = nil, []impl.Lie{{Switch: 1, Lie: 1}}
		}, fault(0, 0)},
		{"the last section", func(p *impl.Plan) { p.Sections = 60; p.Ways[1].Near = []int{59, 0, 31, 32} }, fault(0, 0)},
	})
	wantFault(t, "the least plan", impl.Plan{Sections: 1, Hold: 1}, fault(0, 0))
	wantFault(t, "one way", lone(impl.Way{Sections: []int{0}}), fault(0, 0))
}

func TestPlanZeroValueIsNotRight(t *testing.T) {
	wantFault(t, "the zero value", impl.Plan{}, fault(1, 0))
}

func TestPlanSizes(t *testing.T) {
	for _, n := range append(farOff(), 0, 1, 2, 59, 60, 61) {
		want := fault(1, 0)
		if n >= 1 && n <= 60 {
			want = fault(0, 0)
		}
		wantFault(t, "Sections", impl.Plan{Sections: n, Hold: 1}, want)
	}
	for _, n := range append(farOff(), 0, 1, 2, 299, 300, 301) {
		want := fault(1, 0)
		if n >= 1 && n <= 300 {
			want = fault(0, 0)
		}
		wantFault(t, "Hold", impl.Plan{Sections: 1, Hold: n}, want)
	}
	for n, want := range map[int]impl.Fault{0: {}, 39: {}, 40: {}, 41: fault(1, 0), 42: fault(1, 0), 5000: fault(1, 0)} {
		wantFault(t, "Switches", impl.Plan{Sections: 1, Hold: 1, Switches: make([]int, n)}, want)
	}
	for n, want := range map[int]impl.Fault{0: {}, 1: {}, 99: {}, 100: {}, 101: fault(1, 0), 102: fault(1, 0), 400: fault(1, 0)} {
		p := impl.Plan{Sections: 1, Hold: 1, Bars: squareOf(n, true)}
		for range n {
			p.Ways = append(p.Ways, impl.Way{Sections: []int{0}})
		}
		wantFault(t, "Ways", p, want)
	}
}

func TestPlanGreatest(t *testing.T) {
	p := impl.Plan{Sections: 60, Hold: 300, Switches: make([]int, 40), Bars: squareOf(100, true)}
	for range 100 {
		p.Ways = append(p.Ways, impl.Way{Sections: span(0, 30), Lies: liesOf(0, 30), Flanks: liesOf(30, 10), Over: span(30, 30), Near: span(15, 30)})
	}
	wantFault(t, "every limit met", p, fault(0, 0))
	p.Ways[99].Near = span(15, 31)
	wantFault(t, "the last way's last list", p, fault(3, 99))
	p.Ways[99].Near = nil
	p.Bars[98][99] = false
	wantFault(t, "the last two ways", p, fault(5, 98))
}

func TestPlanSwitchInNoSection(t *testing.T) {
	for k := range 40 {
		for _, section := range append(farOff(), 7) {
			p := impl.Plan{Sections: 7, Hold: 1, Switches: make([]int, 40)}
			p.Switches[k] = section
			wantFault(t, "a switch in no section", p, fault(2, k))
		}
	}
	for section := range 60 {
		wantFault(t, "a switch in a section", impl.Plan{Sections: section + 1, Hold: 1, Switches: []int{section}}, fault(0, 0))
		wantFault(t, "a switch just behind the last", impl.Plan{Sections: section + 1, Hold: 1, Switches: []int{0, section + 1}}, fault(2, 1))
	}
	wantFault(t, "two of them", impl.Plan{Sections: 3, Hold: 1, Switches: []int{2, 3, -1, 0}}, fault(2, 1))
}

func TestPlanWayLists(t *testing.T) {
	testSpoiled(t, []spoiled{
		{"no Sections", func(p *impl.Plan) { p.Ways[3].Sections = nil }, fault(3, 3)},
		{"empty Sections", func(p *impl.Plan) { p.Ways[1].Sections = []int{} }, fault(3, 1)},
		{"an empty way", func(p *impl.Plan) { p.Ways[0] = impl.Way{} }, fault(3, 0)},
		{"twice in Sections", func(p *impl.Plan) { p.Ways[0].Sections = []int{0, 1, 2, 0} }, fault(3, 0)},
		{"twice in Over", func(p *impl.Plan) { p.Ways[2].Over = []int{2, 1, 2} }, fault(3, 2)},
		{"twice in Near", func(p *impl.Plan) { p.Ways[1].Near = []int{4, 4} }, fault(3, 1)},
		{"its last section in Over", func(p *impl.Plan) { p.Ways[2].Over = []int{2, 3} }, fault(3, 2)},
		{"its first section in Over", func(p *impl.Plan) { p.Ways[2].Over = []int{4} }, fault(3, 2)},
	})
	for _, n := range append(farOff(), 5, 6, 32, 37) {
		testSpoiled(t, []spoiled{
			{"no such one in Sections", func(p *impl.Plan) { p.Ways[1].Sections = []int{0, 1, n} }, fault(3, 1)},
			{"no such first one", func(p *impl.Plan) { p.Ways[3].Sections = []int{n} }, fault(3, 3)},
			{"no such one in Over", func(p *impl.Plan) { p.Ways[0].Over = []int{n, 3} }, fault(3, 0)},
			{"no such one in Near", func(p *impl.Plan) { p.Ways[3].Near = []int{n} }, fault(3, 3)},
		})
	}
}

func TestPlanWaySwitches(t *testing.T) {
	testSpoiled(t, []spoiled{
		{"twice in Lies", func(p *impl.Plan) { p.Ways[0].Lies = []impl.Lie{{Switch: 0, Lie: 1}, {Switch: 0, Lie: 2}} }, fault(3, 0)},
		{"twice in Lies, lying alike", func(p *impl.Plan) { p.Ways[0].Lies = []impl.Lie{{Switch: 0, Lie: 1}, {Switch: 0, Lie: 1}} }, fault(3, 0)},
		{"twice in Flanks", func(p *impl.Plan) {
			p.Ways[3].Flanks = []impl.Lie{{Switch: 1, Lie: 1}, {Switch: 0, Lie: 1}, {Switch: 1, Lie: 2}}
		}, fault(3, 3)},
		{"twice in Flanks, lying alike", func(p *impl.Plan) { p.Ways[3].Flanks = []impl.Lie{{Switch: 1, Lie: 1}, {Switch: 1, Lie: 1}} }, fault(3, 3)},
		{"on and beside", func(p *impl.Plan) { p.Ways[0].Flanks = []impl.Lie{{Switch: 1, Lie: 2}, {Switch: 0, Lie: 2}} }, fault(3, 0)},
		{"on and beside, lying alike", func(p *impl.Plan) { p.Ways[1].Flanks = []impl.Lie{{Switch: 0, Lie: 2}} }, fault(3, 1)},
		{"in Lies, but not on the way", func(p *impl.Plan) { p.Ways[1].Lies = []impl.Lie{{Switch: 0, Lie: 1}, {Switch: 1, Lie: 1}} }, fault(3, 1)},
		{"in Lies, but in Over", func(p *impl.Plan) { p.Ways[0].Lies, p.Ways[0].Flanks = []impl.Lie{{Switch: 1, Lie: 1}}, nil }, fault(3, 0)},
		{"in Lies, but in Near", func(p *impl.Plan) {
			p.Ways[3] = impl.Way{Sections: []int{4}, Lies: []impl.Lie{{Switch: 1, Lie: 1}}, Near: []int{3}}
		}, fault(3, 3)},
		{"lies where there are no switches", func(p *impl.Plan) { p.Switches = nil }, fault(3, 0)},
	})
	for _, n := range append(farOff(), 2, 3, 32, 39, 40, 41) {
		testSpoiled(t, []spoiled{
			{"no such switch in Lies", func(p *impl.Plan) { p.Ways[1].Lies = []impl.Lie{{Switch: 0, Lie: 1}, {Switch: n, Lie: 1}} }, fault(3, 1)},
			{"no such switch in Flanks", func(p *impl.Plan) { p.Ways[1].Flanks = []impl.Lie{{Switch: n, Lie: 2}} }, fault(3, 1)},
		})
	}
	for _, n := range append(farOff(), 0, 3, 257, 258) {
		testSpoiled(t, []spoiled{
			{"no such lie in Lies", func(p *impl.Plan) { p.Ways[2].Lies[0].Lie = n }, fault(3, 2)},
			{"no such lie in Flanks", func(p *impl.Plan) { p.Ways[3].Flanks[1].Lie = n }, fault(3, 3)},
		})
	}
}

func TestPlanMostOfAList(t *testing.T) {
	for n, want := range map[int]impl.Fault{29: {}, 30: {}, 31: fault(3, 0), 32: fault(3, 0), 40: fault(3, 0)} {
		wantFault(t, "Sections", lone(impl.Way{Sections: span(0, n)}), want)
		wantFault(t, "Over", lone(impl.Way{Sections: []int{0}, Over: span(1, n)}), want)
		wantFault(t, "Near", lone(impl.Way{Sections: []int{0}, Near: span(0, n)}), want)
		wantFault(t, "Lies", lone(impl.Way{Sections: []int{0}, Lies: liesOf(0, n)}), want)
		wantFault(t, "Flanks", lone(impl.Way{Sections: []int{0}, Flanks: liesOf(0, n)}), want)
	}
	wantFault(t, "Lies and Flanks of more than 30 together", lone(impl.Way{Sections: []int{0}, Lies: liesOf(0, 20), Flanks: liesOf(20, 20)}), fault(0, 0))
	wantFault(t, "more switches on and beside than there are", lone(impl.Way{Sections: []int{0}, Lies: liesOf(0, 30), Flanks: liesOf(30, 11)}), fault(3, 0))
	wantFault(t, "a very long list", lone(impl.Way{Sections: []int{0}, Near: make([]int, 1<<20)}), fault(3, 0))
}

// Every pair of sections: each must be told from each other, on both sides of whatever they are packed into.
func TestPlanEverySectionIsItsOwn(t *testing.T) {
	when := func(same bool, code int) impl.Fault {
		if same {
			return fault(code, 0)
		}
		return fault(0, 0)
	}
	for a := range 60 {
		for b := range 60 {
			wantFault(t, "twice in a list", lone(impl.Way{Sections: []int{a, b}}), when(a == b, 3))
			wantFault(t, "Sections and Over", lone(impl.Way{Sections: []int{a}, Over: []int{b}}), when(a == b, 3))
			wantFault(t, "Sections and Near", lone(impl.Way{Sections: []int{a}, Near: []int{b}}), fault(0, 0))
			p := impl.Plan{Sections: 60, Hold: 1, Switches: []int{b}, Ways: []impl.Way{{Sections: []int{a}, Lies: []impl.Lie{{Lie: 1}}}}, Bars: squareOf(1, true)}
			wantFault(t, "a switch on a way", p, when(a != b, 3))
			p.Ways[0].Lies, p.Ways[0].Flanks = nil, p.Ways[0].Lies
			wantFault(t, "a switch beside a way", p, fault(0, 0))
			p = impl.Plan{Sections: 60, Hold: 1, Ways: []impl.Way{{Sections: []int{a}}, {Sections: []int{b}}}, Bars: squareOf(2, false)}
			wantFault(t, "two ways in common", p, when(a == b, 5))
		}
	}
}

func TestPlanRows(t *testing.T) {
	testSpoiled(t, []spoiled{
		{"no rows", func(p *impl.Plan) { p.Bars = nil }, fault(4, 0)},
		{"empty rows", func(p *impl.Plan) { p.Bars = [][]bool{} }, fault(4, 0)},
		{"a row missing", func(p *impl.Plan) { p.Bars = p.Bars[:3] }, fault(4, 0)},
		{"a row too many", func(p *impl.Plan) { p.Bars = append(p.Bars, make([]bool, 4)) }, fault(4, 0)},
		{"a row too many, all of five", func(p *impl.Plan) { p.Bars = squareOf(5, true) }, fault(4, 0)},
		{"an empty row too many", func(p *impl.Plan) { p.Bars = append(p.Bars, nil) }, fault(4, 0)},
		{"a row missing, another short", func(p *impl.Plan) { p.Bars = p.Bars[:3]; p.Bars[2] = nil }, fault(4, 0)},
		{"a row too many, another long", func(p *impl.Plan) { p.Bars = append(p.Bars, nil); p.Bars[2] = make([]bool, 5) }, fault(4, 0)},
		{"the first row nil", func(p *impl.Plan) { p.Bars[0] = nil }, fault(4, 0)},
		{"the last row empty", func(p *impl.Plan) { p.Bars[3] = []bool{} }, fault(4, 3)},
		{"a row short by one", func(p *impl.Plan) { p.Bars[2] = p.Bars[2][:3] }, fault(4, 2)},
		{"a row long by one", func(p *impl.Plan) { p.Bars[1] = append(p.Bars[1], false) }, fault(4, 1)},
		{"a row far too long", func(p *impl.Plan) { p.Bars[3] = make([]bool, 1<<16) }, fault(4, 3)},
		{"two rows", func(p *impl.Plan) { p.Bars[1] = nil; p.Bars[3] = nil }, fault(4, 1)},
		{"every row short", func(p *impl.Plan) { p.Bars = make([][]bool, 4) }, fault(4, 0)},
		{"rows without ways", func(p *impl.Plan) { p.Ways = nil }, fault(4, 0)},
		{"an empty row without ways", func(p *impl.Plan) { p.Ways, p.Bars = nil, [][]bool{nil} }, fault(4, 0)},
	})
}

func TestPlanBars(t *testing.T) {
	bar := func(p *impl.Plan, i, k int, value bool) { p.Bars[i][k], p.Bars[k][i] = value, value }
	testSpoiled(t, []spoiled{
		{"barred one way round, above", func(p *impl.Plan) { p.Bars[1][3] = true }, fault(5, 1)},
		{"barred one way round, below", func(p *impl.Plan) { p.Bars[3][1] = true }, fault(5, 1)},
		{"the last two", func(p *impl.Plan) { p.Bars[3][2] = false }, fault(5, 2)},
		{"first and last", func(p *impl.Plan) { p.Bars[3][0] = true }, fault(5, 0)},
		{"sections in common, not barred", func(p *impl.Plan) { bar(p, 0, 1, false) }, fault(5, 0)},
		{"sections in common, not barred, later", func(p *impl.Plan) { bar(p, 2, 3, false) }, fault(5, 2)},
		{"sections in common, barred one way round", func(p *impl.Plan) { p.Bars[2][3] = false }, fault(5, 2)},
		{"both, not barred first", func(p *impl.Plan) { bar(p, 0, 1, false); p.Bars[3][2] = false }, fault(5, 0)},
		{"both, one way round first", func(p *impl.Plan) { bar(p, 2, 3, false); p.Bars[3][0] = true }, fault(5, 0)},
		{"nothing in common, not barred", func(p *impl.Plan) { bar(p, 1, 2, false) }, fault(0, 0)},
		{"nothing in common, barred", func(p *impl.Plan) { bar(p, 0, 3, true); bar(p, 1, 3, true) }, fault(0, 0)},
		{"all barred", func(p *impl.Plan) { p.Bars = squareOf(4, true) }, fault(0, 0)},
		{"Over, Near and another's Sections in common", func(p *impl.Plan) { p.Ways[0].Over = []int{3, 4}; p.Ways[0].Near = []int{4, 3} }, fault(0, 0)},
		{"a switch in common", func(p *impl.Plan) { p.Ways[2].Flanks = []impl.Lie{{Switch: 0, Lie: 2}} }, fault(0, 0)},
		{"the last section in common", func(p *impl.Plan) { p.Ways[1].Sections = []int{0, 1, 4} }, fault(5, 1)},
	})
}

func TestPlanBarsOfAWayWithItself(t *testing.T) {
	for signs := range 16 {
		p := station()
		for i := range p.Ways {
			p.Bars[i][i] = signs>>i&1 == 1
		}
		wantFault(t, "a way with itself", p, fault(0, 0))
	}
}

// Each pair of codes in one plan: the lower code comes first, though the higher one stands at a lower place.
func TestPlanFirstByCode(t *testing.T) {
	late := []func(p *impl.Plan){
		func(p *impl.Plan) { p.Hold = 0 },
		func(p *impl.Plan) { p.Switches[1] = 5 },
		func(p *impl.Plan) { p.Ways[3].Near = []int{5} },
		func(p *impl.Plan) { p.Bars[3] = p.Bars[3][:3] },
		func(p *impl.Plan) { p.Bars[2][3] = false },
	}
	early := []func(p *impl.Plan){
		func(p *impl.Plan) { p.Sections = 61 },
		func(p *impl.Plan) { p.Switches[0] = -1 },
		func(p *impl.Plan) { p.Ways[0].Sections = nil },
		func(p *impl.Plan) { p.Bars[0] = append(p.Bars[0], true) },
		func(p *impl.Plan) { p.Bars[0][1] = false },
	}
	place := [5]int{0, 1, 3, 3, 2}
	for low := range late {
		for high := low + 1; high < len(early); high++ {
			p := station()
			early[high](&p)
			late[low](&p)
			wantFault(t, "the lower code", p, fault(low+1, place[low]))
		}
	}
}

func TestPlanFirstByPlace(t *testing.T) {
	testSpoiled(t, []spoiled{
		{"switches", func(p *impl.Plan) { p.Switches = []int{4, 9, 0, 9} }, fault(2, 1)},
		{"ways, whatever their faults are", func(p *impl.Plan) {
			p.Ways[3].Sections = nil
			p.Ways[1].Over = []int{1}
			p.Ways[2].Near = []int{-1}
		}, fault(3, 1)},
		{"rows", func(p *impl.Plan) { p.Bars[3], p.Bars[2] = nil, make([]bool, 5) }, fault(4, 2)},
		{"bars", func(p *impl.Plan) { p.Bars[3][2], p.Bars[3][1] = false, true }, fault(5, 1)},
	})
}

// A way of a plan whose switches or sizes are wrong is not looked into, and nothing panics.
func TestPlanManyFaultsAtOnce(t *testing.T) {
	wild := impl.Way{Sections: farOff(), Lies: []impl.Lie{{Switch: math.MinInt, Lie: math.MaxInt}, {Switch: 99, Lie: 1}}, Over: farOff(), Near: farOff()}
	p := impl.Plan{Sections: math.MaxInt, Switches: farOff(), Ways: []impl.Way{wild}, Bars: [][]bool{nil, nil}, Hold: math.MinInt}
	wantFault(t, "all", p, fault(1, 0))
	p.Hold = 300
	wantFault(t, "all but Hold", p, fault(1, 0))
	p.Sections = 60
	wantFault(t, "all but the sizes", p, fault(2, 0))
	p.Switches = []int{59}
	wantFault(t, "all but the switches", p, fault(3, 0))
	p.Ways[0] = impl.Way{Sections: []int{59}, Lies: []impl.Lie{{Lie: 2}}}
	wantFault(t, "the rows alone", p, fault(4, 0))
	p.Bars = [][]bool{{true}}
	wantFault(t, "none", p, fault(0, 0))
}

// withSpare lays each list of the station in a longer one, so that a write behind a list's end is seen too.
func withSpare(p impl.Plan) impl.Plan {
	p.Switches = append(p.Switches, 77)[:len(p.Switches)]
	p.Ways = append(p.Ways, impl.Way{Sections: []int{77}})[:len(p.Ways)]
	for i, w := range p.Ways {
		p.Ways[i].Sections = append(w.Sections, 77)[:len(w.Sections)]
		p.Ways[i].Over = append(w.Over, 77)[:len(w.Over)]
		p.Ways[i].Near = append(w.Near, 77)[:len(w.Near)]
		p.Ways[i].Lies = append(w.Lies, impl.Lie{Switch: 77})[:len(w.Lies)]
		p.Ways[i].Flanks = append(w.Flanks, impl.Lie{Switch: 77})[:len(w.Flanks)]
		p.Bars[i] = append(p.Bars[i], true)[:len(p.Bars[i])]
	}
	return p
}

func wholeOf[T any](list []T) []T { return list[:cap(list)] }

// wholePlan shows every list up to its capacity.
func wholePlan(p impl.Plan) impl.Plan {
	ways := append([]impl.Way(nil), wholeOf(p.Ways)...)
	for i, w := range ways {
		ways[i] = impl.Way{Sections: wholeOf(w.Sections), Lies: wholeOf(w.Lies), Flanks: wholeOf(w.Flanks), Over: wholeOf(w.Over), Near: wholeOf(w.Near)}
	}
	var bars [][]bool
	for _, row := range p.Bars {
		bars = append(bars, wholeOf(row))
	}
	return impl.Plan{Sections: p.Sections, Switches: wholeOf(p.Switches), Ways: ways, Bars: bars, Hold: p.Hold}
}

func TestPlanIsNotWrittenInto(t *testing.T) {
	for _, spoil := range []func(p *impl.Plan){
		func(p *impl.Plan) {},
		func(p *impl.Plan) { p.Switches[1] = 9 },
		func(p *impl.Plan) { p.Ways[2].Near = []int{3, 1, 3} },
		func(p *impl.Plan) { p.Bars[2] = nil },
		func(p *impl.Plan) { p.Bars[1][3] = true },
	} {
		p, same := station(), station()
		spoil(&p)
		spoil(&same)
		p, same = withSpare(p), withSpare(same)
		first, second := impl.PlanOk(p), impl.PlanOk(p)
		if first != second || first != impl.PlanOk(same) {
			t.Errorf("two answers: %v, %v", first, second)
		}
		if !reflect.DeepEqual(wholePlan(p), wholePlan(same)) {
			t.Errorf("written into: %v", wholePlan(p))
		}
	}
}
