package tests

import (
	"reflect"
	"slices"
	"testing"

	"loop.example/tappet/impl"
)

func TestPointLock(t *testing.T) {
	p := station()
	for _, c := range []struct {
		text  string
		point int
		want  []int
	}{
		{"..... 1/1 1/1 - - - -", 0, nil},
		{"..... 1/1 1/1 - - - -", 1, nil},
		{"..... 1/1 2/1 s - - -", 0, []int{0}},
		{"..... 1/1 2/1 s - - -", 1, []int{0}},
		{"..... 2/2 1/1 - C* - -", 0, []int{1}},
		{"..... 2/2 1/1 - C* - -", 1, nil},
		{"..... 1/1 1/1 - - C* -", 0, nil},
		{"..... 1/1 1/1 - - C* -", 1, []int{2}},
		{"..... 1/1 2/2 C* - - s", 0, []int{0, 3}},
		{"..... 1/1 2/2 C* - - s", 1, []int{0, 3}},
		{"..... 1/1 2/2 C* - s -", 1, []int{0, 2}},
		{"..... 2/2 1/1 - C* - s", 0, []int{1, 3}},
		{"..... 2/1 1/1 s - - -", 0, []int{0}},
		{"....# 1/1 2/2 t*@7 - - -", 0, []int{0}},
		{"....# 1/1 2/2 t*@7 - - -", 1, []int{0}},
		{"#.... 1/1 2/2 u*0:100 - - -", 0, []int{0}},
		{".#... 1/1 2/2 u*1:110 - - -", 0, []int{0}},
		{"..#.. 1/1 2/2 u*2:111 - - -", 0, nil},
		{"..#.. 1/1 2/2 u*2:111 - - -", 1, []int{0}},
		{".##.. 1/1 2/2 u*2:111 - - -", 0, nil},
		{"...#. 1/1 1/1 - - u*1:11 -", 1, []int{2}},
		{"....# 1/1 1/1 - - - u*0:1", 0, []int{3}},
		{"....# 1/1 1/1 - - - u*0:1", 1, []int{3}},
	} {
		if got := impl.PointLock(p, frameOf(p, c.text), c.point); !slices.Equal(got, c.want) {
			t.Errorf("%s, switch %d: %v, want %v", c.text, c.point, got, c.want)
		}
	}
	for _, point := range append(farOff(), 2, 3) {
		if got := impl.PointLock(p, frameOf(p, "..... 1/1 2/2 C* - - s"), point); len(got) != 0 {
			t.Errorf("switch %d: %v", point, got)
		}
	}
}

func TestWhyNot(t *testing.T) {
	for _, c := range []struct {
		text string
		want [4]int
	}{
		{"..... 1/1 1/1 - - - -", [4]int{0, 0, 0, 0}},
		{"..... 2/0 2/0 - - - -", [4]int{0, 0, 0, 0}},
		{"..... 1/1 2/1 s - - -", [4]int{2, 3, 3, 5}},
		{"..... 1/1 2/2 C* - - -", [4]int{2, 3, 3, 5}},
		{"....# 1/1 2/2 t*@7 - - -", [4]int{2, 3, 3, 4}},
		{"#.... 1/1 2/2 u*0:100 - - -", [4]int{2, 3, 3, 5}},
		{"..... 2/2 1/1 - C* - -", [4]int{3, 2, 3, 5}},
		{"..... 1/1 1/1 - - C* -", [4]int{3, 3, 2, 3}},
		{"..... 1/1 1/1 - - - C*", [4]int{5, 5, 3, 2}},
		{"#.... 1/1 1/1 - - - -", [4]int{4, 4, 0, 0}},
		{".#... 1/1 1/1 - - - -", [4]int{4, 4, 4, 0}},
		{".#... 2/1 1/1 - - - -", [4]int{4, 4, 4, 6}},
		{"..#.. 1/1 1/1 - - - -", [4]int{4, 0, 4, 0}},
		{"...#. 1/1 1/1 - - - -", [4]int{4, 0, 4, 0}},
		{"...#. 1/1 2/1 - - - -", [4]int{4, 0, 4, 6}},
		{"....# 1/1 1/1 - - - -", [4]int{0, 0, 4, 4}},
		{"....# 1/1 2/1 - - - -", [4]int{0, 0, 4, 4}},
		{".##.. 2/1 2/2 u*2:111 - - -", [4]int{2, 3, 3, 5}},
		{".##.. 2/1 1/2 u*2:111 - - -", [4]int{2, 3, 3, 6}},
		{"..#.. 2/1 1/2 u*2:111 - - -", [4]int{2, 3, 3, 0}},
		{"..#.# 2/1 2/2 u*2:111 - - -", [4]int{2, 3, 3, 4}},
	} {
		p := station()
		for way, want := range c.want {
			if got := impl.WhyNot(p, frameOf(p, c.text), way); got != want {
				t.Errorf("%s, way %d: %d, want %d", c.text, way, got, want)
			}
		}
	}
}

// What one of two ways has behind its end, and what the other has on it; Bars say nothing of them.
func TestWhyNotOver(t *testing.T) {
	for _, c := range []struct {
		what        string
		held, asked impl.Way
		want        int
	}{
		{"nothing in common", impl.Way{Sections: []int{0}}, impl.Way{Sections: []int{1}}, 0},
		{"its section behind the held one", impl.Way{Sections: []int{0}, Over: []int{2, 1}}, impl.Way{Sections: []int{1}}, 3},
		{"its last section behind the held one", impl.Way{Sections: []int{0}, Over: []int{2}}, impl.Way{Sections: []int{1, 2}}, 3},
		{"the held one's section behind it", impl.Way{Sections: []int{0}}, impl.Way{Sections: []int{1}, Over: []int{0}}, 3},
		{"the held one's last section behind it", impl.Way{Sections: []int{0, 2}}, impl.Way{Sections: []int{1}, Over: []int{3, 2}}, 3},
		{"one section behind both", impl.Way{Sections: []int{0}, Over: []int{2}}, impl.Way{Sections: []int{1}, Over: []int{2}}, 0},
		{"ahead of both", impl.Way{Sections: []int{0}, Near: []int{1, 2}}, impl.Way{Sections: []int{1}, Near: []int{0, 2}}, 0},
	} {
		p := impl.Plan{Sections: 4, Hold: 1, Ways: []impl.Way{c.held, c.asked}, Bars: squareOf(2, false)}
		f := frameAt(t, p, ask(0))
		if got := impl.WhyNot(p, f, 1); got != c.want {
			t.Errorf("%s: %d", c.what, got)
		}
		if got := impl.WhyNot(p, impl.Begin(p), 1); got != 0 {
			t.Errorf("%s, not held: %d", c.what, got)
		}
		p.Bars = squareOf(2, true)
		if got := impl.WhyNot(p, f, 1); got != 3 {
			t.Errorf("%s, excluded: %d", c.what, got)
		}
	}
}

// A way is held as a whole: a section that it let go of is one of its Sections yet.
func TestWhyNotOverBehindATrain(t *testing.T) {
	p := impl.Plan{Sections: 3, Hold: 1, Ways: []impl.Way{{Sections: []int{0, 1}}, {Sections: []int{2}, Over: []int{0}}}, Bars: squareOf(2, false)}
	f := frameAt(t, p, ask(0), occ(0), occ(1), free(0))
	if got := impl.WhyNot(p, f, 1); got != 3 || f.Ways[0].Gone != 1 {
		t.Errorf("%d in %s", got, picture(f))
	}
	if f = frameAfter(p, f, free(1)); impl.WhyNot(p, f, 1) != 0 {
		t.Error(picture(f))
	}
}

func TestLocksOfNone(t *testing.T) {
	p := station()
	for _, way := range append(farOff(), 4, 5) {
		if got := impl.WhyNot(p, impl.Begin(p), way); got != 1 {
			t.Errorf("way %d: %d", way, got)
		}
	}
	for what, spoil := range spoilFrame() {
		f := frameOf(p, "..... 1/1 2/2 C* - - s")
		spoil(&f)
		if why, lock := impl.WhyNot(p, f, 1), impl.PointLock(p, f, 1); why != 1 || len(lock) != 0 {
			t.Errorf("%s: %d, %v", what, why, lock)
		}
	}
	for _, wrong := range wrongPlans() {
		f := frameOf(p, "..... 1/1 2/2 C* - - s")
		if why, lock := impl.WhyNot(wrong, f, 1), impl.PointLock(wrong, f, 1); why != 1 || len(lock) != 0 {
			t.Errorf("fault %v: %d, %v", impl.PlanOk(wrong), why, lock)
		}
	}
}

func TestAskedForIsSetJustWhenNoReason(t *testing.T) {
	seen := counted{}
	overRuns(t, 15, func(s stepTold) {
		if s.e.Op != impl.EAsk || !impl.EventOk(s.p, s.e) {
			return
		}
		why := impl.WhyNot(s.p, s.before, s.e.Of)
		held := s.after.Ways[s.e.Of].State != impl.WIdle
		seen[codeKey(impl.EAsk, why)]++
		if why != s.code || held != (why == 0 || why == 2) {
			t.Errorf("%v: WhyNot %d, code %d: %v", s.e, why, s.code, s)
		}
	})
	seen.wantSome(t, 50, "ask 0", "ask 2", "ask 3", "ask 4", "ask 5", "ask 6")
}

func TestLocksAreNotWrittenInto(t *testing.T) {
	for _, text := range rightFrames() {
		p, samePlan := withSpare(station()), withSpare(station())
		f, sameFrame := spareFrame(frameOf(p, text)), spareFrame(frameOf(p, text))
		for i := range 4 {
			if impl.WhyNot(p, f, i) != impl.WhyNot(p, f, i) {
				t.Errorf("%s, way %d: two answers", text, i)
			}
			first, second := impl.PointLock(p, f, i), impl.PointLock(p, f, i)
			if !slices.Equal(first, second) {
				t.Errorf("%s, switch %d: two answers", text, i)
			}
			wantApart(t, text, p, f, first, second)
		}
		if !reflect.DeepEqual(wholeFrame(f), wholeFrame(sameFrame)) || !reflect.DeepEqual(wholePlan(p), wholePlan(samePlan)) {
			t.Errorf("%s: written into", text)
		}
	}
}
