package tests

import (
	"reflect"
	"slices"
	"testing"

	"loop.example/tappet/impl"
)

func TestDoTrainPasses(t *testing.T) {
	testSteps(t, "a way of three sections", station(), []step{
		{ask(0), 0, "..... 1/1 2/1 s - - -"},
		{lies(1, 2), 0, "..... 1/1 2/2 C* - - -"},
		{occ(0), 0, "#.... 1/1 2/2 u*0:100 - - -"},
		{occ(0), 0, "#.... 1/1 2/2 u*0:100 - - -"},
		{occ(1), 0, "##... 1/1 2/2 u*0:110 - - -"},
		{free(0), 0, ".#... 1/1 2/2 u*1:110 - - -"},
		{occ(2), 0, ".##.. 1/1 2/2 u*1:111 - - -"},
		{free(1), 0, "..#.. 1/1 2/2 u*2:111 - - -"},
		{tick(), 0, "..#.. 1/1 2/2 u*2:111 - - -"},
		{occ(3), 0, "..##. 1/1 2/2 u*2:111 - - -"},
		{free(2), 0, "...#. 1/1 2/2 - - - -"},
	})
	testSteps(t, "a way of one section", station(), []step{
		{ask(3), 0, "..... 1/1 1/1 - - - C*"},
		{occ(4), 0, "....# 1/1 1/1 - - - u*0:1"},
		{lies(0, 0), 0, "....# 1/0 1/1 - - - u*0:1"},
		{free(4), 0, "..... 1/0 1/1 - - - -"},
	})
	testSteps(t, "one that stands between two sections", station(), []step{
		{ask(1), 0, "..... 2/1 1/1 - s - -"},
		{lies(0, 2), 0, "..... 2/2 1/1 - C* - -"},
		{occ(0), 0, "#.... 2/2 1/1 - u*0:10 - -"},
		{free(0), 0, "..... 2/2 1/1 - u*0:10 - -"},
		{occ(1), 0, ".#... 2/2 1/1 - u*1:11 - -"},
		{occ(0), 0, "##... 2/2 1/1 - u*1:11 - -"},
		{free(1), 0, "#.... 2/2 1/1 - - - -"},
	})
}

func TestDoComesInWhileNotClear(t *testing.T) {
	testSteps(t, "never clear", station(), []step{
		{ask(0), 0, "..... 1/1 2/1 s - - -"},
		{occ(0), 0, "#.... 1/1 2/1 u0:100 - - -"},
		{lies(1, 2), 0, "#.... 1/1 2/2 u0:100 - - -"},
		{free(0), 0, "..... 1/1 2/2 u0:100 - - -"},
		{back(0), 2, "..... 1/1 2/2 u0:100 - - -"},
		{ask(0), 2, "..... 1/1 2/2 u0:100 - - -"},
		{tick(), 0, "..... 1/1 2/2 u0:100 - - -"},
		{occ(1), 0, ".#... 1/1 2/2 u1:110 - - -"},
		{free(1), 0, "..... 1/1 2/2 u1:110 - - -"},
		{occ(2), 0, "..#.. 1/1 2/2 u2:111 - - -"},
		{free(2), 0, "..... 1/1 2/2 - - - -"},
	})
	testSteps(t, "clear no more", station(), []step{
		{ask(0), 0, "..... 1/1 2/1 s - - -"},
		{lies(1, 2), 0, "..... 1/1 2/2 C* - - -"},
		{occ(3), 0, "...#. 1/1 2/2 s* - - -"},
		{free(3), 0, "..... 1/1 2/2 C* - - -"},
		{occ(2), 0, "..#.. 1/1 2/2 s* - - -"},
		{occ(0), 0, "#.#.. 1/1 2/2 u*0:101 - - -"},
		{free(0), 0, "..#.. 1/1 2/2 u*0:101 - - -"},
		{occ(1), 0, ".##.. 1/1 2/2 u*1:111 - - -"},
		{free(2), 0, ".#... 1/1 2/2 u*1:111 - - -"},
		{free(1), 0, "..... 1/1 2/2 - - - -"},
	})
}

func TestDoTakenBack(t *testing.T) {
	testSteps(t, "never clear, somebody near", station(), []step{
		{ask(0), 0, "..... 1/1 2/1 s - - -"},
		{occ(4), 0, "....# 1/1 2/1 s - - -"},
		{back(0), 0, "....# 1/1 2/1 - - - -"},
		{back(0), 2, "....# 1/1 2/1 - - - -"},
	})
	testSteps(t, "clear, nobody near", station(), []step{
		{ask(0), 0, "..... 1/1 2/1 s - - -"},
		{lies(1, 2), 0, "..... 1/1 2/2 C* - - -"},
		{back(0), 0, "..... 1/1 2/2 - - - -"},
	})
	testSteps(t, "clear no more, nobody near", station(), []step{
		{ask(0), 0, "..... 1/1 2/1 s - - -"},
		{lies(1, 2), 0, "..... 1/1 2/2 C* - - -"},
		{occ(2), 0, "..#.. 1/1 2/2 s* - - -"},
		{back(0), 0, "..#.. 1/1 2/2 - - - -"},
	})
	testSteps(t, "clear no more, somebody near", station(), []step{
		{ask(0), 0, "..... 1/1 2/1 s - - -"},
		{lies(1, 2), 0, "..... 1/1 2/2 C* - - -"},
		{lies(0, 0), 0, "..... 1/0 2/2 s* - - -"},
		{occ(4), 0, "....# 1/0 2/2 s* - - -"},
		{back(0), 0, "....# 1/0 2/2 t*@7 - - -"},
		{lies(0, 1), 0, "....# 1/1 2/2 t*@7 - - -"},
	})
	testSteps(t, "clear, somebody near, the time passes", station(), []step{
		{ask(0), 0, "..... 1/1 2/1 s - - -"},
		{lies(1, 2), 0, "..... 1/1 2/2 C* - - -"},
		{occ(4), 0, "....# 1/1 2/2 C* - - -"},
		{tick(), 0, "....# 1/1 2/2 C* - - -"},
		{back(0), 0, "....# 1/1 2/2 t*@7 - - -"},
		{back(0), 2, "....# 1/1 2/2 t*@7 - - -"},
		{ask(0), 2, "....# 1/1 2/2 t*@7 - - -"},
		{ask(1), 3, "....# 1/1 2/2 t*@7 - - -"},
		{move(0, 2), 2, "....# 1/1 2/2 t*@7 - - -"},
		{move(1, 1), 2, "....# 1/1 2/2 t*@7 - - -"},
		{tick(), 0, "....# 1/1 2/2 t*@6 - - -"},
		{free(4), 0, "..... 1/1 2/2 t*@6 - - -"},
		{occ(1), 0, ".#... 1/1 2/2 t*@6 - - -"},
		{tick(), 0, ".#... 1/1 2/2 t*@5 - - -"},
		{tick(), 0, ".#... 1/1 2/2 t*@4 - - -"},
		{tick(), 0, ".#... 1/1 2/2 t*@3 - - -"},
		{tick(), 0, ".#... 1/1 2/2 t*@2 - - -"},
		{tick(), 0, ".#... 1/1 2/2 t*@1 - - -"},
		{tick(), 0, ".#... 1/1 2/2 - - - -"},
		{tick(), 0, ".#... 1/1 2/2 - - - -"},
	})
	testSteps(t, "clear, somebody near who comes in", station(), []step{
		{ask(0), 0, "..... 1/1 2/1 s - - -"},
		{lies(1, 2), 0, "..... 1/1 2/2 C* - - -"},
		{occ(4), 0, "....# 1/1 2/2 C* - - -"},
		{back(0), 0, "....# 1/1 2/2 t*@7 - - -"},
		{tick(), 0, "....# 1/1 2/2 t*@6 - - -"},
		{occ(0), 0, "#...# 1/1 2/2 u*0:100 - - -"},
		{tick(), 0, "#...# 1/1 2/2 u*0:100 - - -"},
		{free(4), 0, "#.... 1/1 2/2 u*0:100 - - -"},
		{occ(1), 0, "##... 1/1 2/2 u*0:110 - - -"},
		{free(0), 0, ".#... 1/1 2/2 u*1:110 - - -"},
	})
}

// A way whose second section of Near is its own first: whoever is there has come in.
func TestDoTakenBackNearAndFirst(t *testing.T) {
	testSteps(t, "way 1", station(), []step{
		{ask(1), 0, "..... 2/1 1/1 - s - -"},
		{lies(0, 2), 0, "..... 2/2 1/1 - C* - -"},
		{occ(0), 0, "#.... 2/2 1/1 - u*0:10 - -"},
		{back(1), 2, "#.... 2/2 1/1 - u*0:10 - -"},
	})
	testSteps(t, "the last of Near", station(), []step{
		{ask(2), 0, "..... 1/1 1/1 - - C* -"},
		{occ(2), 0, "..#.. 1/1 1/1 - - s* -"},
		{back(2), 0, "..#.. 1/1 1/1 - - t*@7 -"},
	})
}

func TestDoMove(t *testing.T) {
	testSteps(t, "switches by hand", station(), []step{
		{move(0, 2), 0, "..... 2/1 1/1 - - - -"},
		{move(0, 2), 0, "..... 2/1 1/1 - - - -"},
		{occ(1), 0, ".#... 2/1 1/1 - - - -"},
		{move(0, 1), 3, ".#... 2/1 1/1 - - - -"},
		{move(0, 2), 3, ".#... 2/1 1/1 - - - -"},
		{move(1, 2), 0, ".#... 2/1 2/1 - - - -"},
		{ask(3), 6, ".#... 2/1 2/1 - - - -"},
		{free(1), 0, "..... 2/1 2/1 - - - -"},
		{ask(3), 0, "..... 1/1 1/1 - - - C*"},
		{move(0, 2), 2, "..... 1/1 1/1 - - - C*"},
		{move(0, 1), 2, "..... 1/1 1/1 - - - C*"},
		{occ(1), 0, ".#... 1/1 1/1 - - - C*"},
		{move(0, 2), 2, ".#... 1/1 1/1 - - - C*"},
		{occ(3), 0, ".#.#. 1/1 1/1 - - - C*"},
		{back(3), 0, ".#.#. 1/1 1/1 - - - -"},
		{move(1, 2), 3, ".#.#. 1/1 1/1 - - - -"},
	})
	testSteps(t, "switches on and beside a way behind a train", station(), []step{
		{ask(0), 0, "..... 1/1 2/1 s - - -"},
		{occ(0), 0, "#.... 1/1 2/1 u0:100 - - -"},
		{occ(1), 0, "##... 1/1 2/1 u0:110 - - -"},
		{free(0), 0, ".#... 1/1 2/1 u1:110 - - -"},
		{free(1), 0, "..... 1/1 2/1 u1:110 - - -"},
		{move(0, 2), 2, "..... 1/1 2/1 u1:110 - - -"},
		{occ(2), 0, "..#.. 1/1 2/1 u2:111 - - -"},
		{move(0, 2), 0, "..#.. 2/1 2/1 u2:111 - - -"},
		{move(1, 1), 2, "..#.. 2/1 2/1 u2:111 - - -"},
		{occ(1), 0, ".##.. 2/1 2/1 u2:111 - - -"},
		{move(0, 1), 3, ".##.. 2/1 2/1 u2:111 - - -"},
		{free(2), 0, ".#... 2/1 2/1 - - - -"},
		{move(1, 1), 0, ".#... 2/1 1/1 - - - -"},
	})
}

func TestDoAsk(t *testing.T) {
	testSteps(t, "held, and excluded", station(), []step{
		{ask(0), 0, "..... 1/1 2/1 s - - -"},
		{ask(0), 2, "..... 1/1 2/1 s - - -"},
		{ask(1), 3, "..... 1/1 2/1 s - - -"},
		{ask(2), 3, "..... 1/1 2/1 s - - -"},
		{ask(3), 5, "..... 1/1 2/1 s - - -"},
	})
	testSteps(t, "somebody in its sections, behind its end", station(), []step{
		{occ(2), 0, "..#.. 1/1 1/1 - - - -"},
		{ask(0), 4, "..#.. 1/1 1/1 - - - -"},
		{ask(2), 4, "..#.. 1/1 1/1 - - - -"},
		{ask(3), 0, "..#.. 1/1 1/1 - - - C*"},
		{ask(0), 4, "..#.. 1/1 1/1 - - - C*"},
		{free(2), 0, "..... 1/1 1/1 - - - C*"},
		{ask(0), 5, "..... 1/1 1/1 - - - C*"},
		{ask(1), 5, "..... 1/1 1/1 - - - C*"},
		{ask(2), 3, "..... 1/1 1/1 - - - C*"},
	})
	testSteps(t, "somebody near, or on it no switch that has to turn", station(), []step{
		{occ(4), 0, "....# 1/1 1/1 - - - -"},
		{ask(1), 0, "....# 2/1 1/1 - s - -"},
		{occ(3), 0, "...## 2/1 1/1 - s - -"},
		{lies(0, 2), 0, "...## 2/2 1/1 - C* - -"},
	})
	testSteps(t, "all switches of a way are wanted so", station(), []step{
		{move(0, 2), 0, "..... 2/1 1/1 - - - -"},
		{lies(0, 0), 0, "..... 2/0 1/1 - - - -"},
		{lies(1, 2), 0, "..... 2/0 1/2 - - - -"},
		{ask(0), 0, "..... 1/0 2/2 s - - -"},
		{lies(0, 2), 0, "..... 1/2 2/2 s - - -"},
		{lies(0, 1), 0, "..... 1/1 2/2 C* - - -"},
		{lies(1, 0), 0, "..... 1/1 2/0 s* - - -"},
	})
}

// Frames written by hand: also such as no run gets to.
func TestDoOfFrames(t *testing.T) {
	p := station()
	for _, c := range []struct {
		from string
		e    impl.Event
		code int
		to   string
	}{
		{"#.... 1/1 2/2 u*0:111 - - -", free(0), 0, "..... 1/1 2/2 - - - -"},
		{"#.#.. 1/1 2/2 u0:111 - - -", free(0), 0, "..#.. 1/1 2/2 u2:111 - - -"},
		{"..... 1/1 2/2 u0:000 - - -", occ(1), 0, ".#... 1/1 2/2 u0:010 - - -"},
		{"..... 1/1 2/2 u0:000 - - -", occ(0), 0, "#.... 1/1 2/2 u0:100 - - -"},
		{"..... 1/1 2/2 u*2:110 - - -", occ(0), 0, "#.... 1/1 2/2 u*2:110 - - -"},
		{"..... 1/1 2/2 u0:011 - - -", occ(0), 0, "#.... 1/1 2/2 u0:111 - - -"},
		{".#### 2/0 1/0 t*@3 - - -", occ(0), 0, "##### 2/0 1/0 u*0:111 - - -"},
		{".#### 2/0 1/0 t*@3 - - -", tick(), 0, ".#### 2/0 1/0 t*@2 - - -"},
		{"..... 1/1 2/2 t*@1 - - -", tick(), 0, "..... 1/1 2/2 - - - -"},
		{"..... 1/1 2/2 C* - - s", lies(1, 1), 0, "..... 1/1 2/1 s* - - s"},
		{"..... 1/1 2/2 C* - s -", occ(4), 0, "....# 1/1 2/2 C* - u0:10 -"},
		{"..... 1/1 2/2 C* - s -", occ(3), 0, "...#. 1/1 2/2 s* - s -"},
		{"..... 2/2 2/2 - - - -", ask(3), 0, "..... 1/2 1/2 - - - s"},
		{"..... 2/2 1/1 - C* - s", ask(3), 2, "..... 2/2 1/1 - C* - s"},
		{"..... 2/1 2/2 s - - -", move(0, 1), 2, "..... 2/1 2/2 s - - -"},
		{"..... 2/1 2/2 s - - -", back(0), 0, "..... 2/1 2/2 - - - -"},
		{"##### 2/0 1/2 - - - -", free(3), 0, "###.# 2/0 1/2 - - - -"},
		{"##### 2/0 1/2 - - - -", lies(1, 0), 0, "##### 2/0 1/0 - - - -"},
		{"##### 2/0 1/2 - - - -", move(1, 2), 3, "##### 2/0 1/2 - - - -"},
	} {
		done := impl.Do(p, frameOf(p, c.from), c.e)
		if done.Code != c.code || picture(done.Frame) != c.to {
			t.Errorf("%s, %v: got %d %s, want %d %s", c.from, c.e, done.Code, picture(done.Frame), c.code, c.to)
		}
	}
}

// twins are two ways side by side with one section ahead of both.
func twins() impl.Plan {
	return impl.Plan{
		Sections: 3,
		Ways:     []impl.Way{{Sections: []int{0}, Near: []int{2}}, {Sections: []int{1}, Near: []int{2}}},
		Bars:     squareOf(2, false),
		Hold:     2,
	}
}

func TestDoTickIsForAllWays(t *testing.T) {
	testSteps(t, "one after the other", twins(), []step{
		{ask(0), 0, "... C* -"},
		{ask(1), 0, "... C* C*"},
		{occ(2), 0, "..# C* C*"},
		{back(1), 0, "..# C* t*@2"},
		{tick(), 0, "..# C* t*@1"},
		{back(0), 0, "..# t*@2 t*@1"},
		{tick(), 0, "..# t*@1 -"},
		{ask(1), 0, "..# t*@1 C*"},
		{tick(), 0, "..# - C*"},
		{tick(), 0, "..# - C*"},
	})
	testSteps(t, "both at once", twins(), []step{
		{ask(0), 0, "... C* -"},
		{ask(1), 0, "... C* C*"},
		{occ(2), 0, "..# C* C*"},
		{back(0), 0, "..# t*@2 C*"},
		{back(1), 0, "..# t*@2 t*@2"},
		{tick(), 0, "..# t*@1 t*@1"},
		{occ(1), 0, ".## t*@1 u*0:1"},
		{tick(), 0, ".## - u*0:1"},
		{free(1), 0, "..# - -"},
	})
}

// noEvents are none of the station, each beside one that is.
func noEvents() []impl.Event {
	return []impl.Event{
		{}, {Op: 8}, {Op: -1}, ask(4), ask(-1), back(4), back(-1), occ(5), occ(-1), free(5), free(-1),
		lies(2, 1), lies(-1, 1), lies(0, 3), lies(0, -1), move(2, 1), move(-1, 1), move(0, 0), move(0, 3),
		{Op: impl.EAsk, Lie: 1}, {Op: impl.EBack, Lie: 1}, {Op: impl.EOcc, Lie: 1}, {Op: impl.EFree, Lie: 2}, {Op: impl.ETick, Of: 1}, {Op: impl.ETick, Lie: 1}, {Op: impl.ETick, Of: -1},
	}
}

func TestDoNone(t *testing.T) {
	p := station()
	for _, text := range rightFrames() {
		for _, e := range noEvents() {
			if done := impl.Do(p, frameOf(p, text), e); done.Code != 1 || !isZero(done.Frame) {
				t.Errorf("%v of %s: %+v", e, text, done)
			}
		}
	}
	for _, wrong := range wrongPlans() {
		if done := impl.Do(wrong, impl.Begin(p), tick()); done.Code != 1 || !isZero(done.Frame) {
			t.Errorf("fault %v: %+v", impl.PlanOk(wrong), done)
		}
	}
	if done := impl.Do(p, impl.Begin(twins()), tick()); done.Code != 1 || !isZero(done.Frame) {
		t.Errorf("another plan's frame: %+v", done)
	}
}

func TestRunNone(t *testing.T) {
	p := station()
	events := []impl.Event{ask(0), lies(1, 2), occ(0)}
	want := []string{"..... 1/1 2/1 s - - -", "..... 1/1 2/2 C* - - -", "#.... 1/1 2/2 u*0:100 - - -"}
	none := noEvents()
	var mixed []impl.Event
	mixed = append(mixed, none...)
	for _, e := range events {
		mixed = append(append(mixed, e), none...)
	}
	got := impl.Run(p, mixed)
	if len(got) != len(mixed) {
		t.Fatal(len(got))
	}
	at := "..... 1/1 1/1 - - - -"
	for i, done := range got {
		code := 1
		if i%(len(none)+1) == len(none) {
			code, at = 0, want[i/(len(none)+1)]
		}
		if done.Code != code || picture(done.Frame) != at {
			t.Errorf("%d, %v: %d %s, want %d %s", i, mixed[i], done.Code, picture(done.Frame), code, at)
		}
	}
}

func TestRunSizes(t *testing.T) {
	p := station()
	for _, e := range []impl.Event{tick(), occ(4), {}} {
		for _, n := range []int{0, 1, 999, 1000, 1001, 1002, 5000} {
			got := impl.Run(p, slices.Repeat([]impl.Event{e}, n))
			want := n
			if n > 1000 {
				want = 0
			}
			if len(got) != want {
				t.Errorf("%d times %v: %d", n, e, len(got))
			}
			for _, done := range got {
				if !impl.FrameOk(p, done.Frame) || done.Code != number(e.Op == 0) {
					t.Fatalf("%v: %+v", e, done)
				}
			}
		}
	}
	if len(impl.Run(p, nil)) != 0 {
		t.Error("no events")
	}
	for _, wrong := range wrongPlans() {
		if got := impl.Run(wrong, []impl.Event{tick(), {}}); len(got) != 0 {
			t.Errorf("fault %v: %v", impl.PlanOk(wrong), got)
		}
	}
}

// The greatest plan: every list full.
func TestRunGreatest(t *testing.T) {
	p := impl.Plan{Sections: 60, Hold: 300, Switches: make([]int, 40), Bars: squareOf(100, true)}
	for range 100 {
		p.Ways = append(p.Ways, impl.Way{Sections: span(0, 30), Lies: liesOf(0, 30), Flanks: liesOf(30, 10), Over: span(30, 30), Near: span(29, 30)})
	}
	events := []impl.Event{ask(99)}
	for k := range 40 {
		events = append(events, lies(k, 1+k%2))
	}
	events = append(events, back(99), ask(98))
	for section := range 60 {
		events = append(events, occ(section))
	}
	for section := range 60 {
		events = append(events, free(section))
	}
	events = append(events, slices.Repeat([]impl.Event{ask(99), back(99)}, 400)...)
	got := impl.Run(p, events)
	state := func(i, way int) int { return got[i].Frame.Ways[way].State }
	if state(0, 99) != impl.WSet || state(39, 99) != impl.WSet || state(40, 99) != impl.WClear || state(41, 99) != impl.WIdle || state(42, 98) != impl.WClear {
		t.Error("a way of every limit is not set and taken back")
	}
	if state(43, 98) != impl.WUsed || got[43+60+28].Frame.Ways[98].Gone != 29 || state(43+60+29, 98) != impl.WIdle {
		t.Error("a way of every limit is not passed")
	}
	if len(got) != len(events) || state(len(got)-2, 99) != impl.WClear || state(len(got)-1, 99) != impl.WIdle {
		t.Error("the end of the run")
	}
}

// spareFrame lays each list of a frame in a longer one, so that a write behind a list's end is seen too.
func spareFrame(f impl.Frame) impl.Frame {
	f.Occ = append(f.Occ, true)[:len(f.Occ)]
	f.Points = append(f.Points, impl.Point{Want: 77})[:len(f.Points)]
	f.Ways = append(f.Ways, impl.Held{Timer: 77})[:len(f.Ways)]
	for i, h := range f.Ways {
		f.Ways[i].Been = append(h.Been, true)[:len(h.Been)]
	}
	return f
}

// wholeFrame shows every list up to its capacity.
func wholeFrame(f impl.Frame) impl.Frame {
	whole := impl.Frame{Ok: f.Ok, Occ: wholeOf(f.Occ), Points: wholeOf(f.Points)}
	for _, h := range wholeOf(f.Ways) {
		h.Been = wholeOf(h.Been)
		whole.Ways = append(whole.Ways, h)
	}
	return whole
}

// Every event on every frame: nothing is written into the plan and the frame, nothing is shared, and the answer comes twice.
func TestFrameIsNotWrittenInto(t *testing.T) {
	events := append(noEvents(), tick())
	for i := range 5 {
		events = append(events, occ(i), free(i), ask(i), back(i), lies(i%2, i%3), move(i%2, 1+i/2%2))
	}
	for _, text := range append(rightFrames(), "..... 1/1 1/1 -@1 - - -", "#.... 1/1 2/1 s - - -") {
		p, samePlan := withSpare(station()), withSpare(station())
		f, sameFrame := spareFrame(frameOf(p, text)), spareFrame(frameOf(p, text))
		for _, e := range events {
			first, second := impl.Do(p, f, e), impl.Do(p, f, e)
			if !reflect.DeepEqual(first, second) || impl.FrameOk(p, f) != impl.FrameOk(p, f) || impl.EventOk(p, e) != impl.EventOk(p, e) {
				t.Errorf("%v of %s: two answers", e, text)
			}
			if !reflect.DeepEqual(wholeFrame(f), wholeFrame(sameFrame)) || !reflect.DeepEqual(wholePlan(p), wholePlan(samePlan)) {
				t.Fatalf("%v of %s: written into", e, text)
			}
			wantApart(t, text, p, f, first, second)
		}
	}
}

func TestRunSharesNothing(t *testing.T) {
	p, same := withSpare(station()), withSpare(station())
	events := []impl.Event{tick(), {}, ask(0), ask(0), lies(1, 2), occ(4), back(0), tick(), occ(0), occ(1), free(0), {}, occ(2), free(1), free(2), move(0, 2), move(0, 2), {}, {}}
	kept := slices.Clone(events)
	first, second := impl.Run(p, events), impl.Run(p, events)
	if !reflect.DeepEqual(first, second) {
		t.Error("two answers")
	}
	if !slices.Equal(events, kept) || !reflect.DeepEqual(wholePlan(p), wholePlan(same)) {
		t.Error("written into")
	}
	wantApart(t, "a run", p, events, first, second, impl.Begin(p), impl.Begin(p))
}
