package tests

import (
	"reflect"
	"slices"
	"testing"

	"loop.example/tappet/impl"
)

// Of the station's way 0 one thing at a time is not as it has to be; then the other ways, whether they are held or not.
func TestProved(t *testing.T) {
	p := station()
	for _, c := range []struct {
		what, text string
		way        int
		want       bool
	}{
		{"all is so, idle", "..... 1/1 2/2 - - - -", 0, true},
		{"all is so, clear", "..... 1/1 2/2 C* - - -", 0, true},
		{"all is so, taken back", "..... 1/1 2/2 t*@3 - - -", 0, true},
		{"all is so, used and nobody there", "..... 1/1 2/2 u0:100 - - -", 0, true},
		{"all is so, another is held", "..... 1/1 2/2 - - s -", 0, true},
		{"somebody near", "....# 1/1 2/2 C* - - -", 0, true},
		{"a switch on it wanted otherwise", "..... 2/1 2/2 - - - -", 0, false},
		{"a switch on it known otherwise", "..... 1/2 2/2 - - - -", 0, false},
		{"a switch on it not known", "..... 1/0 2/2 - - - -", 0, false},
		{"a switch on it wanted and known otherwise", "..... 2/2 2/2 - - - -", 0, false},
		{"a switch beside it wanted otherwise", "..... 1/1 1/2 - - - -", 0, false},
		{"a switch beside it known otherwise", "..... 1/1 2/1 - - - -", 0, false},
		{"a switch beside it not known", "..... 1/1 2/0 - - - -", 0, false},
		{"a switch beside it wanted and known otherwise", "..... 1/1 1/1 - - - -", 0, false},
		{"somebody in the first section", "#.... 1/1 2/2 - - - -", 0, false},
		{"somebody in the second section", ".#... 1/1 2/2 - - - -", 0, false},
		{"somebody in the last section", "..#.. 1/1 2/2 - - - -", 0, false},
		{"somebody behind its end", "...#. 1/1 2/2 - - - -", 0, false},
		{"set, a switch beside it known otherwise", "..... 1/1 2/1 s - - -", 0, false},
		{"set, somebody behind its end", "...#. 1/1 2/2 s* - - -", 0, false},
		{"used, somebody in it", "#.... 1/1 2/2 u*0:100 - - -", 0, false},
		{"used, somebody in what it let go of", "#.... 1/1 2/2 u*1:110 - - -", 0, false},
		{"used, a switch of what it let go of", "..... 2/2 2/2 u*2:110 - - -", 0, false},
		{"no switch beside it", "..### 2/2 1/0 - - - -", 1, true},
		{"the last behind its end", ".#... 1/1 1/1 - - - -", 2, false},
		{"the first behind its end", "..#.. 1/1 1/1 - - - -", 2, false},
		{"nobody behind its end", "#.... 2/0 1/1 - - - -", 2, true},
		{"no switch on it", "####. 1/1 1/1 - - - -", 3, true},
		{"the first of two beside it", "..... 1/0 1/1 - - - -", 3, false},
		{"the last of two beside it", "..... 1/1 1/0 - - - -", 3, false},
	} {
		f := frameOf(p, c.text)
		if got := impl.Proved(p, f, c.way); got != c.want || !impl.FrameOk(p, f) {
			t.Errorf("%s: %v", c.what, got)
		}
	}
}

func TestLockedBy(t *testing.T) {
	p := station()
	for _, c := range []struct {
		text string
		want [5]int
	}{
		{"..... 1/1 1/1 - - - -", [5]int{-1, -1, -1, -1, -1}},
		{"##### 1/1 1/1 - - - -", [5]int{-1, -1, -1, -1, -1}},
		{"..... 1/1 2/1 s - - -", [5]int{0, 0, 0, -1, -1}},
		{"..... 1/1 2/2 C* - - -", [5]int{0, 0, 0, -1, -1}},
		{"....# 1/1 2/2 t*@7 - - -", [5]int{0, 0, 0, -1, -1}},
		{"..... 2/2 1/1 - C* - -", [5]int{1, 1, -1, -1, -1}},
		{"..... 1/1 1/1 - - C* -", [5]int{-1, -1, -1, 2, 2}},
		{"..... 1/1 1/1 - - - C*", [5]int{-1, -1, -1, -1, 3}},
		{"..... 1/1 2/2 C* - s -", [5]int{0, 0, 0, 2, 2}},
		{"..... 1/1 2/2 C* - - s", [5]int{0, 0, 0, -1, 3}},
		{"..... 2/2 1/1 - C* - s", [5]int{1, 1, -1, -1, 3}},
		{"#...# 1/1 2/2 u*0:100 - u0:10 -", [5]int{0, 0, 0, 2, 2}},
		{"#.... 1/1 2/2 u*0:100 - - -", [5]int{0, 0, 0, -1, -1}},
		{".#... 1/1 2/2 u*1:110 - - -", [5]int{-1, 0, 0, -1, -1}},
		{"##... 1/1 2/2 u*1:110 - - -", [5]int{-1, 0, 0, -1, -1}},
		{"..#.. 1/1 2/2 u*2:111 - - -", [5]int{-1, -1, 0, -1, -1}},
		{"...#. 1/1 1/1 - - u*1:11 -", [5]int{-1, -1, -1, 2, -1}},
	} {
		f := frameOf(p, c.text)
		for section, want := range c.want {
			if got := impl.LockedBy(p, f, section); got != want || !impl.FrameOk(p, f) {
				t.Errorf("%s, section %d: %d, want %d", c.text, section, got, want)
			}
		}
		for _, section := range append(farOff(), 5, 6) {
			if got := impl.LockedBy(p, f, section); got != -1 {
				t.Errorf("%s, section %d: %d", c.text, section, got)
			}
		}
	}
}

// What is behind the end of a way, or ahead of it, is not its own.
func TestLockedByOnlyOnTheWay(t *testing.T) {
	p := lone(impl.Way{Sections: []int{59, 0}, Over: []int{58}, Near: []int{57}})
	f := frameAt(t, p, ask(0))
	for section := range p.Sections {
		want := -number(section != 59 && section != 0)
		if got := impl.LockedBy(p, f, section); got != want {
			t.Errorf("section %d: %d", section, got)
		}
	}
}

// A hundred ways of the greatest plan: as many as there are sections can be held, the last among them.
func TestLocksAtTheLimits(t *testing.T) {
	p := impl.Plan{Sections: 60, Hold: 300, Switches: make([]int, 40), Bars: squareOf(100, false)}
	for i := range 100 {
		p.Ways = append(p.Ways, impl.Way{Sections: []int{i % 60}, Flanks: []impl.Lie{{Switch: 39, Lie: 1}}})
		for k := range 100 {
			p.Bars[i][k] = i%60 == k%60
		}
	}
	f := impl.Begin(p)
	for i := 99; i >= 40; i-- {
		f = frameAfter(p, f, ask(i))
	}
	if got := impl.PointLock(p, f, 39); !slices.Equal(got, span(40, 60)) {
		t.Error(impl.PlanOk(p), got)
	}
	if impl.LockedBy(p, f, 39) != 99 || impl.LockedBy(p, f, 59) != 59 || impl.LockedBy(p, f, 60) != -1 {
		t.Error(impl.LockedBy(p, f, 39), impl.LockedBy(p, f, 59))
	}
	if !impl.Proved(p, f, 99) || impl.Proved(p, f, 100) || impl.WhyNot(p, f, 99) != 2 || impl.WhyNot(p, f, 100) != 1 || len(impl.PointLock(p, f, 40)) != 0 {
		t.Error("the last way and switch")
	}
	if got := impl.Blocked(p, f, 39); !slices.Equal(got.Ways, []int{99}) {
		t.Error(got)
	}
	if got := impl.Blocked(p, f, 100); !sameStays(got, impl.Stays{}) {
		t.Error(got)
	}
}

func TestPointLock(t *testing.T) {
	p := station()
	for _, c := range []struct {
		text  string
		point int
		want  []int
	}{
		{"..... 1/1 1/1 - - - -", 0, nil},
		{"..... 1/1 1/1 - - - -", 1, nil},
		{"..... 1/1 2/1 s - - -", 0, []int{0}},
		{"..... 1/1 2/1 s - - -", 1, []int{0}},
		{"..... 2/2 1/1 - C* - -", 0, []int{1}},
		{"..... 2/2 1/1 - C* - -", 1, nil},
		{"..... 1/1 1/1 - - C* -", 0, nil},
		{"..... 1/1 1/1 - - C* -", 1, []int{2}},
		{"..... 1/1 2/2 C* - - s", 0, []int{0, 3}},
		{"..... 1/1 2/2 C* - - s", 1, []int{0, 3}},
		{"..... 1/1 2/2 C* - s -", 1, []int{0, 2}},
		{"..... 2/2 1/1 - C* - s", 0, []int{1, 3}},
		{"..... 2/1 1/1 s - - -", 0, []int{0}},
		{"....# 1/1 2/2 t*@7 - - -", 0, []int{0}},
		{"....# 1/1 2/2 t*@7 - - -", 1, []int{0}},
		{"#.... 1/1 2/2 u*0:100 - - -", 0, []int{0}},
		{".#... 1/1 2/2 u*1:110 - - -", 0, []int{0}},
		{"..#.. 1/1 2/2 u*2:111 - - -", 0, nil},
		{"..#.. 1/1 2/2 u*2:111 - - -", 1, []int{0}},
		{".##.. 1/1 2/2 u*2:111 - - -", 0, nil},
		{"...#. 1/1 1/1 - - u*1:11 -", 1, []int{2}},
		{"....# 1/1 1/1 - - - u*0:1", 0, []int{3}},
		{"....# 1/1 1/1 - - - u*0:1", 1, []int{3}},
	} {
		if got := impl.PointLock(p, frameOf(p, c.text), c.point); !slices.Equal(got, c.want) {
			t.Errorf("%s, switch %d: %v, want %v", c.text, c.point, got, c.want)
		}
	}
	for _, point := range append(farOff(), 2, 3) {
		if got := impl.PointLock(p, frameOf(p, "..... 1/1 2/2 C* - - s"), point); len(got) != 0 {
			t.Errorf("switch %d: %v", point, got)
		}
	}
}

func TestWhyNot(t *testing.T) {
	for _, c := range []struct {
		text string
		want [4]int
	}{
		{"..... 1/1 1/1 - - - -", [4]int{0, 0, 0, 0}},
		{"..... 2/0 2/0 - - - -", [4]int{0, 0, 0, 0}},
		{"..... 1/1 2/1 s - - -", [4]int{2, 3, 3, 5}},
		{"..... 1/1 2/2 C* - - -", [4]int{2, 3, 3, 5}},
		{"....# 1/1 2/2 t*@7 - - -", [4]int{2, 3, 3, 4}},
		{"#.... 1/1 2/2 u*0:100 - - -", [4]int{2, 3, 3, 5}},
		{"..... 2/2 1/1 - C* - -", [4]int{3, 2, 3, 5}},
		{"..... 1/1 1/1 - - C* -", [4]int{3, 3, 2, 3}},
		{"..... 1/1 1/1 - - - C*", [4]int{5, 5, 3, 2}},
		{"#.... 1/1 1/1 - - - -", [4]int{4, 4, 0, 0}},
		{".#... 1/1 1/1 - - - -", [4]int{4, 4, 4, 0}},
		{".#... 2/1 1/1 - - - -", [4]int{4, 4, 4, 6}},
		{"..#.. 1/1 1/1 - - - -", [4]int{4, 0, 4, 0}},
		{"...#. 1/1 1/1 - - - -", [4]int{4, 0, 4, 0}},
		{"...#. 1/1 2/1 - - - -", [4]int{4, 0, 4, 6}},
		{"....# 1/1 1/1 - - - -", [4]int{0, 0, 4, 4}},
		{"....# 1/1 2/1 - - - -", [4]int{0, 0, 4, 4}},
		{".##.. 2/1 2/2 u*2:111 - - -", [4]int{2, 3, 3, 5}},
		{".##.. 2/1 1/2 u*2:111 - - -", [4]int{2, 3, 3, 6}},
		{"..#.. 2/1 1/2 u*2:111 - - -", [4]int{2, 3, 3, 0}},
		{"..#.# 2/1 2/2 u*2:111 - - -", [4]int{2, 3, 3, 4}},
	} {
		p := station()
		for way, want := range c.want {
			if got := impl.WhyNot(p, frameOf(p, c.text), way); got != want {
				t.Errorf("%s, way %d: %d, want %d", c.text, way, got, want)
			}
		}
	}
}

// What one of two ways has behind its end, and what the other has on it; Bars say nothing of them.
func TestWhyNotOver(t *testing.T) {
	for _, c := range []struct {
		what        string
		held, asked impl.Way
		want        int
	}{
		{"nothing in common", impl.Way{Sections: []int{0}}, impl.Way{Sections: []int{1}}, 0},
		{"its section behind the held one", impl.Way{Sections: []int{0}, Over: []int{2, 1}}, impl.Way{Sections: []int{1}}, 3},
		{"its last section behind the held one", impl.Way{Sections: []int{0}, Over: []int{2}}, impl.Way{Sections: []int{1, 2}}, 3},
		{"the held one's section behind it", impl.Way{Sections: []int{0}}, impl.Way{Sections: []int{1}, Over: []int{0}}, 3},
		{"the held one's last section behind it", impl.Way{Sections: []int{0, 2}}, impl.Way{Sections: []int{1}, Over: []int{3, 2}}, 3},
		{"one section behind both", impl.Way{Sections: []int{0}, Over: []int{2}}, impl.Way{Sections: []int{1}, Over: []int{2}}, 0},
		{"ahead of both", impl.Way{Sections: []int{0}, Near: []int{1, 2}}, impl.Way{Sections: []int{1}, Near: []int{0, 2}}, 0},
	} {
		p := impl.Plan{Sections: 4, Hold: 1, Ways: []impl.Way{c.held, c.asked}, Bars: squareOf(2, false)}
		f := frameAt(t, p, ask(0))
		if got := impl.WhyNot(p, f, 1); got != c.want {
			t.Errorf("%s: %d", c.what, got)
		}
		if got := impl.WhyNot(p, impl.Begin(p), 1); got != 0 {
			t.Errorf("%s, not held: %d", c.what, got)
		}
		p.Bars = squareOf(2, true)
		if got := impl.WhyNot(p, f, 1); got != 3 {
			t.Errorf("%s, excluded: %d", c.what, got)
		}
	}
}

// A way is held as a whole: a section that it let go of is one of its Sections yet.
func TestWhyNotOverBehindATrain(t *testing.T) {
	p := impl.Plan{Sections: 3, Hold: 1, Ways: []impl.Way{{Sections: []int{0, 1}}, {Sections: []int{2}, Over: []int{0}}}, Bars: squareOf(2, false)}
	f := frameAt(t, p, ask(0), occ(0), occ(1), free(0))
	if got := impl.WhyNot(p, f, 1); got != 3 || f.Ways[0].Gone != 1 {
		t.Errorf("%d in %s", got, picture(f))
	}
	if f = frameAfter(p, f, free(1)); impl.WhyNot(p, f, 1) != 0 {
		t.Error(picture(f))
	}
}

// crossing is a plan whose way 0 each reason can be against by itself: way 1 has its section 1 behind the end, way 2 wants switch 1 otherwise.
func crossing() impl.Plan {
	return impl.Plan{
		Sections: 6,
		Switches: []int{1, 2},
		Ways: []impl.Way{
			{Sections: []int{0, 1}, Lies: []impl.Lie{{Switch: 0, Lie: 1}}, Flanks: []impl.Lie{{Switch: 1, Lie: 1}}, Over: []int{3}},
			{Sections: []int{4}, Over: []int{1}},
			{Sections: []int{5}, Flanks: []impl.Lie{{Switch: 1, Lie: 2}}},
		},
		Bars: squareOf(3, false),
		Hold: 1,
	}
}

// crossingWith is a frame of the crossing in which these reasons, and no others, are against way 0.
func crossingWith(p impl.Plan, against func(reason int) bool) impl.Frame {
	f := modelBegin(p)
	for way, reason := range []int{2, 3, 5} {
		f.Ways[way].State = number(against(reason)) * impl.WSet
	}
	f.Occ[3], f.Occ[2] = against(4), against(6)
	if against(5) || against(6) {
		f.Points[1] = impl.Point{Want: 2, Lies: 2}
	}
	return modelSettled(p, f)
}

// Of any reasons together the first is told, and Blocked tells all.
func TestReasonsTogether(t *testing.T) {
	p := crossing()
	for set := range 1 << 5 {
		against := func(reason int) bool { return set>>(reason-2)&1 == 1 }
		f := crossingWith(p, against)
		if !impl.FrameOk(p, f) {
			t.Fatalf("%s is no frame", picture(f))
		}
		why, stays := 0, impl.Stays{}
		for reason := 6; reason >= 2; reason-- {
			if against(reason) {
				why = reason
			}
		}
		if against(3) {
			stays.Ways = []int{1}
		}
		if against(4) {
			stays.Sections = []int{3}
		}
		if against(5) || against(6) {
			stays.Points = []int{1}
		}
		if got := impl.WhyNot(p, f, 0); got != why {
			t.Errorf("%s: %d, want %d", picture(f), got, why)
		}
		if got := impl.Blocked(p, f, 0); !sameStays(got, stays) {
			t.Errorf("%s: %v, want %v", picture(f), got, stays)
		}
		if done := impl.Do(p, f, ask(0)); done.Code != why {
			t.Errorf("%s: asked for, %d", picture(f), done.Code)
		}
		if f.Ok = false; impl.WhyNot(p, f, 0) != 1 || !sameStays(impl.Blocked(p, f, 0), impl.Stays{}) {
			t.Errorf("%s: a reason of none", picture(f))
		}
	}
}

func TestBlocked(t *testing.T) {
	p := station()
	for _, c := range []struct {
		text                   string
		way                    int
		ways, sections, points []int
	}{
		{"..... 1/1 1/1 - - - -", 0, nil, nil, nil},
		{"..... 2/0 1/0 - - - -", 0, nil, nil, nil},
		{"....# 1/1 1/1 - - - -", 0, nil, nil, nil},
		{"##### 1/1 2/2 - - - -", 0, nil, []int{0, 1, 2, 3}, nil},
		{"##### 2/2 1/1 - - - -", 0, nil, []int{0, 1, 2, 3}, []int{0, 1}},
		{"##### 2/2 2/2 - - - -", 0, nil, []int{0, 1, 2, 3}, []int{0}},
		{"##### 1/1 1/1 - - - -", 1, nil, []int{0, 1}, []int{0}},
		{"##### 1/1 2/2 - - - -", 2, nil, []int{1, 2, 3, 4}, []int{1}},
		{"##### 2/2 2/2 - - - -", 3, nil, []int{4}, []int{0, 1}},
		{".#.#. 2/2 2/2 - - - -", 3, nil, nil, []int{0, 1}},
		{"..... 1/1 2/2 C* - s -", 1, []int{0, 2}, nil, []int{0}},
		{"..... 1/1 2/2 C* - - s", 2, []int{0, 3}, nil, []int{1}},
		{"..... 1/1 2/2 C* - - s", 1, []int{0}, nil, []int{0}},
		{"..... 2/2 1/1 - C* - s", 0, []int{1}, nil, []int{0, 1}},
		{"..... 2/2 1/1 - C* - s", 2, []int{1, 3}, nil, nil},
		{"..... 1/1 2/1 s - - -", 3, nil, nil, []int{1}},
		{"....# 1/1 2/2 t*@7 - - -", 2, []int{0}, []int{4}, []int{1}},
		{"..#.. 2/2 2/2 u*2:111 - - -", 1, []int{0}, nil, nil},
		{"..#.. 1/1 1/1 u*2:111 - - -", 1, []int{0}, nil, nil},
		{".##.. 1/1 1/1 u*2:111 - - -", 1, []int{0}, []int{1}, []int{0}},
		{".#... 1/1 2/2 u*1:110 - - -", 1, []int{0}, []int{1}, []int{0}},
	} {
		f := frameOf(p, c.text)
		want := impl.Stays{Ways: c.ways, Sections: c.sections, Points: c.points}
		if got := impl.Blocked(p, f, c.way); !sameStays(got, want) || !impl.FrameOk(p, f) {
			t.Errorf("%s, way %d: %v, want %v", c.text, c.way, got, want)
		}
	}
}

// What a held way itself holds and wants is not told of, whoever else is against it is.
func TestBlockedOfAHeldWay(t *testing.T) {
	p := station()
	for _, c := range []struct {
		what, text             string
		way                    int
		ways, sections, points []int
	}{
		{"set, its switches wanted so", "..... 1/1 2/1 s - - -", 0, nil, nil, nil},
		{"set, somebody in it and behind its end", ".#.#. 1/1 2/2 s - - -", 0, nil, []int{1, 3}, nil},
		{"clear", "..... 1/1 2/2 C* - - -", 0, nil, nil, nil},
		{"clear, its own bar", "..... 2/2 1/1 - C* - -", 1, nil, nil, nil},
		{"clear, and one that wants the same", "..... 1/1 2/2 C* - - s", 0, nil, nil, nil},
		{"set, and one that wants a switch otherwise", "..... 1/1 2/2 C* - - s", 3, nil, nil, []int{1}},
		{"clear, and one behind whose end it lies", "..... 1/1 2/2 C* - s -", 0, []int{2}, nil, nil},
		{"set, and one that lies behind its end", "..... 1/1 2/2 C* - s -", 2, []int{0}, nil, []int{1}},
		{"taken back", "....# 1/1 2/2 t*@7 - - -", 0, nil, nil, nil},
		{"used", "#.... 1/1 2/2 u*0:100 - - -", 0, nil, []int{0}, nil},
		{"its switches wanted otherwise, by nobody but itself", "..... 2/2 1/1 s* - - -", 0, nil, nil, nil},
		{"its switches wanted otherwise, and somebody there", ".#.#. 2/2 1/1 s* - - -", 0, nil, []int{1, 3}, []int{0, 1}},
		{"a switch of what it let go of wanted otherwise", "..#.. 2/2 2/2 u*2:111 - - -", 0, nil, []int{2}, nil},
		{"a switch of what it let go of, and somebody there", ".##.. 2/2 2/2 u*2:111 - - -", 0, nil, []int{1, 2}, []int{0}},
	} {
		f := frameOf(p, c.text)
		want := impl.Stays{Ways: c.ways, Sections: c.sections, Points: c.points}
		if got := impl.Blocked(p, f, c.way); !sameStays(got, want) || !impl.FrameOk(p, f) {
			t.Errorf("%s: %v, want %v", c.what, got, want)
		}
		if got := impl.WhyNot(p, f, c.way); got != 2 {
			t.Errorf("%s: WhyNot %d", c.what, got)
		}
	}
}

// Way 0 has all its lists upside down: what is told of it is ascending all the same, each once.
func TestBlockedIsAscending(t *testing.T) {
	p := impl.Plan{
		Sections: 9,
		Switches: []int{5, 3, 4, 0, 5, 3},
		Ways: []impl.Way{
			{Sections: []int{5, 3, 4}, Lies: []impl.Lie{{Switch: 4, Lie: 2}, {Switch: 1, Lie: 2}, {Switch: 2, Lie: 2}}, Flanks: []impl.Lie{{Switch: 5, Lie: 2}, {Switch: 3, Lie: 2}, {Switch: 0, Lie: 2}}, Over: []int{2, 1}},
			{Sections: []int{8}, Flanks: []impl.Lie{{Switch: 5, Lie: 1}, {Switch: 2, Lie: 1}, {Switch: 0, Lie: 1}}},
			{Sections: []int{7}, Over: []int{4, 3}, Flanks: []impl.Lie{{Switch: 0, Lie: 1}}},
			{Sections: []int{1}},
			{Sections: []int{6}},
		},
		Bars: squareOf(5, false),
		Hold: 1,
	}
	p.Bars[0][0], p.Bars[0][4], p.Bars[4][0] = true, true, true
	f := frameAt(t, p, ask(4), ask(3), ask(2), ask(1), occ(5), occ(4), occ(3), occ(2), occ(1), occ(0))
	want := impl.Stays{Ways: []int{2, 3, 4}, Sections: []int{1, 2, 3, 4, 5}, Points: []int{0, 1, 2, 3, 4, 5}}
	if got := impl.Blocked(p, f, 0); !sameStays(got, want) {
		t.Error(got)
	}
	f = frameAfter(p, f, free(5), free(3), free(1), free(0))
	want = impl.Stays{Ways: []int{2, 4}, Sections: []int{2, 4}, Points: []int{0, 2, 5}}
	if got := impl.Blocked(p, f, 0); !sameStays(got, want) {
		t.Error(got)
	}
	f = frameAfter(p, f, back(1), back(2), back(4), occ(5), occ(0))
	want = impl.Stays{Sections: []int{2, 4, 5}, Points: []int{0, 2, 3, 4}}
	if got := impl.Blocked(p, f, 0); !sameStays(got, want) {
		t.Error(got)
	}
}

// saysNone says whether all answers about a way, a section or a switch are those of none.
func saysNone(p impl.Plan, f impl.Frame, of int) bool {
	return !impl.Proved(p, f, of) && impl.LockedBy(p, f, of) == -1 && len(impl.PointLock(p, f, of)) == 0 &&
		impl.WhyNot(p, f, of) == 1 && sameStays(impl.Blocked(p, f, of), impl.Stays{})
}

func TestLocksOfNone(t *testing.T) {
	p := station()
	for _, text := range rightFrames() {
		f := frameOf(p, text)
		for _, of := range append(farOff(), 5, 6) {
			if !saysNone(p, f, of) {
				t.Errorf("%s: %d is none", text, of)
			}
		}
		for of := range 5 {
			for what, spoil := range spoilFrame() {
				f := frameOf(p, text)
				if spoil(&f); !saysNone(p, f, of) {
					t.Errorf("%s: %s is no frame", what, picture(f))
				}
			}
			for _, wrong := range wrongPlans() {
				if !saysNone(wrong, f, of) {
					t.Errorf("fault %v: %d in %s", impl.PlanOk(wrong), of, text)
				}
			}
			if !saysNone(p, impl.Frame{}, of) || !saysNone(impl.Plan{}, impl.Frame{}, of) {
				t.Errorf("%d of nothing", of)
			}
		}
	}
}

// Each number is passed by one: there are four ways, five sections, two switches.
func TestLocksPassedByOne(t *testing.T) {
	p := station()
	f := frameOf(p, "..... 2/2 1/1 - C* - s")
	if impl.Proved(p, f, 4) || impl.LockedBy(p, f, 5) != -1 || len(impl.PointLock(p, f, 2)) != 0 || impl.WhyNot(p, f, 4) != 1 || !sameStays(impl.Blocked(p, f, 4), impl.Stays{}) {
		t.Error("passed by one")
	}
	if impl.Proved(p, f, 3) || impl.LockedBy(p, f, 4) != 3 || !slices.Equal(impl.PointLock(p, f, 1), []int{3}) || impl.WhyNot(p, f, 3) != 2 || !sameStays(impl.Blocked(p, f, 3), impl.Stays{Points: []int{0}}) {
		t.Error("met exactly")
	}
	least := impl.Plan{Sections: 1, Hold: 1}
	if f := impl.Begin(least); !saysNone(least, f, 0) || !saysNone(least, f, 1) {
		t.Error("the least plan has no ways and switches")
	}
}

func TestAskedForIsSetJustWhenNoReason(t *testing.T) {
	seen := counted{}
	overRuns(t, 15, func(s stepTold) {
		if s.e.Op != impl.EAsk || !impl.EventOk(s.p, s.e) {
			return
		}
		why := impl.WhyNot(s.p, s.before, s.e.Of)
		held := s.after.Ways[s.e.Of].State != impl.WIdle
		seen[codeKey(impl.EAsk, why)]++
		if why != s.code || held != (why == 0 || why == 2) {
			t.Errorf("%v: WhyNot %d, code %d: %v", s.e, why, s.code, s)
		}
	})
	seen.wantSome(t, 50, "ask 0", "ask 2", "ask 3", "ask 4", "ask 5", "ask 6")
}

// A section is held by one way at most, and LockedBy says by which.
func TestP3ByLockedBy(t *testing.T) {
	seen := counted{}
	overSoManyRuns(t, 16, 400, func(s stepTold) {
		for section := range s.p.Sections {
			holder := -1
			for i := range s.p.Ways {
				if !slices.Contains(holdsYet(s.p, s.after, i), section) {
					continue
				}
				if holder >= 0 {
					t.Errorf("%v: section %d is held by %d and %d: %v", s.e, section, holder, i, s)
				}
				holder = i
			}
			if got := impl.LockedBy(s.p, s.after, section); got != holder {
				t.Errorf("%v: section %d is held by %d, not %d: %v", s.e, section, holder, got, s)
			}
			seen["held"] += number(holder >= 0)
			seen["held by none"] += number(holder < 0)
		}
	})
	seen.wantSome(t, 1000, "held", "held by none")
}

// A switch does not move while PointLock names a way, and those that it names want it as it is wanted.
func TestP4ByPointLock(t *testing.T) {
	seen := counted{}
	overSoManyRuns(t, 17, 400, func(s stepTold) {
		for k := range s.p.Switches {
			locks := impl.PointLock(s.p, s.before, k)
			turned := s.before.Points[k].Want != s.after.Points[k].Want
			seen["locked"] += number(len(locks) > 0)
			seen["turned"] += number(turned)
			seen["refused"] += number(len(locks) > 0 && s.e.Op == impl.EMove && s.e.Of == k && s.code == 2)
			if turned && len(locks) > 0 {
				t.Errorf("%v: switch %d is turned, %v want it: %v", s.e, k, locks, s)
			}
			for _, i := range locks {
				if !slices.Contains(needs(s.p.Ways[i]), impl.Lie{Switch: k, Lie: s.before.Points[k].Want}) {
					t.Errorf("%v: way %d wants switch %d otherwise: %v", s.e, i, k, s)
				}
			}
		}
	})
	seen.wantSome(t, 50, "locked", "turned", "refused")
}

// A signal is clear only while Proved says so; of those that are set it says so of none.
func TestP5ByProved(t *testing.T) {
	seen := counted{}
	overSoManyRuns(t, 18, 400, func(s stepTold) {
		for i, h := range s.after.Ways {
			proved := impl.Proved(s.p, s.after, i)
			seen[pictureOfWay(impl.Held{State: h.State, Shown: proved})]++
			if h.State == impl.WClear && !proved || h.State == impl.WSet && proved {
				t.Errorf("%v: way %d: %v", s.e, i, s)
			}
		}
	})
	seen.wantSome(t, 100, "s", "C*", "t", "t*", "u0:", "-", "-*")
}

// A reason of 3 to 6 is told just when Blocked tells of somebody, and of whom it is.
func TestWhyNotAsBlocked(t *testing.T) {
	seen := counted{}
	overSoManyRuns(t, 19, 400, func(s stepTold) {
		for i := range s.p.Ways {
			why, stays := impl.WhyNot(s.p, s.after, i), impl.Blocked(s.p, s.after, i)
			seen[codeKey(impl.EAsk, why)]++
			var right bool
			switch why {
			case 2:
				right = s.after.Ways[i].State != impl.WIdle
			case 3:
				right = len(stays.Ways) > 0
			case 4:
				right = len(stays.Ways) == 0 && len(stays.Sections) > 0
			case 5, 6:
				right = len(stays.Ways)+len(stays.Sections) == 0 && len(stays.Points) > 0
			default:
				right = len(stays.Ways)+len(stays.Sections)+len(stays.Points) == 0
			}
			if !right {
				t.Errorf("way %d: WhyNot %d, Blocked %v: %s", i, why, stays, picture(s.after))
			}
		}
	})
	seen.wantSome(t, 100, "ask 0", "ask 2", "ask 3", "ask 4", "ask 5", "ask 6")
}

func TestLocksAreNotWrittenInto(t *testing.T) {
	for _, text := range append(rightFrames(), "..... 1/1 1/1 -@1 - - -", "#.... 1/1 2/1 s - - -") {
		p, samePlan := withSpare(station()), withSpare(station())
		f, sameFrame := spareFrame(frameOf(p, text)), spareFrame(frameOf(p, text))
		for of := -1; of <= 5; of++ {
			if impl.WhyNot(p, f, of) != impl.WhyNot(p, f, of) || impl.Proved(p, f, of) != impl.Proved(p, f, of) || impl.LockedBy(p, f, of) != impl.LockedBy(p, f, of) {
				t.Errorf("%s, %d: two answers", text, of)
			}
			first, second := impl.PointLock(p, f, of), impl.PointLock(p, f, of)
			one, other := impl.Blocked(p, f, of), impl.Blocked(p, f, of)
			if !slices.Equal(first, second) || !sameStays(one, other) {
				t.Errorf("%s, %d: two answers", text, of)
			}
			wantApart(t, text, p, f, first, second, one, other)
		}
		if !reflect.DeepEqual(wholeFrame(f), wholeFrame(sameFrame)) || !reflect.DeepEqual(wholePlan(p), wholePlan(samePlan)) {
			t.Errorf("%s: written into", text)
		}
	}
}

// Two lists of one answer, both of more than one: what is written into the one is not seen in the other, nor in the plan.
func TestBlockedSharesNothing(t *testing.T) {
	p := withSpare(station())
	f := spareFrame(frameOf(p, "####. 2/2 1/1 - - - s"))
	want := impl.Stays{Sections: []int{0, 1, 2, 3}, Points: []int{0, 1}}
	first, second := impl.Blocked(p, f, 0), impl.Blocked(p, f, 0)
	if !sameStays(first, want) || !sameStays(second, want) {
		t.Fatal(first, second)
	}
	for i := range first.Sections {
		first.Sections[i] = 77
	}
	first.Sections = append(first.Sections, 77)
	if !slices.Equal(first.Points, want.Points) || !sameStays(second, want) || !sameStays(impl.Blocked(p, f, 0), want) {
		t.Error(first, second)
	}
	wantApart(t, "Blocked", p, f, first, second)
}
