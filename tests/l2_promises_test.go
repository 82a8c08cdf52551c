package tests

import (
	"math/rand/v2"
	"slices"
	"testing"

	"loop.example/tappet/impl"
)

// What the frame owes to others, each looked for in runs of many events.

// stepTold is one step of a run: the frames before and behind an event.
type stepTold struct {
	p      impl.Plan
	before impl.Frame
	e      impl.Event
	code   int
	after  impl.Frame
}

// overRuns hands every step of many drawn runs to a check.
func overRuns(t *testing.T, seed uint64, check func(s stepTold)) {
	t.Helper()
	overSoManyRuns(t, seed, 2000, check)
}

func overSoManyRuns(t *testing.T, seed uint64, runs int, check func(s stepTold)) {
	t.Helper()
	r := rand.New(rand.NewPCG(seed, 2026))
	for run := range runs {
		p := drawnYard(r)
		length := 100
		if run%100 == 0 {
			length = impl.MaxEvents
		}
		f := impl.Begin(p)
		var events []impl.Event
		for range length {
			e := drawnEvent(r, p, f)
			events = append(events, e)
			if impl.EventOk(p, e) {
				f = impl.Do(p, f, e).Frame
			}
		}
		f = impl.Begin(p)
		for i, done := range impl.Run(p, events) {
			check(stepTold{p, f, events[i], done.Code, done.Frame})
			f = done.Frame
		}
		if t.Failed() {
			return
		}
	}
}

func (s stepTold) String() string {
	return picture(s.before) + " -> " + picture(s.after)
}

// holdsYet is the sections that a way holds.
func holdsYet(p impl.Plan, f impl.Frame, way int) []int {
	if f.Ways[way].State == impl.WIdle {
		return nil
	}
	return p.Ways[way].Sections[f.Ways[way].Gone:]
}

func TestP2EveryFrameOfARunIsOne(t *testing.T) {
	overRuns(t, 10, func(s stepTold) {
		if !impl.FrameOk(s.p, s.after) || !modelFrameOk(s.p, s.after) {
			t.Errorf("%v: %v", s.e, s)
		}
		if s.code != 0 && picture(s.before) != picture(s.after) {
			t.Errorf("%v is not done, code %d: %v", s.e, s.code, s)
		}
	})
}

func TestP3WaysThatExcludeEachOther(t *testing.T) {
	both := 0
	overRuns(t, 11, func(s stepTold) {
		holder := map[int]int{}
		for i := range s.p.Ways {
			for k := range i {
				if s.after.Ways[i].State == impl.WIdle || s.after.Ways[k].State == impl.WIdle {
					continue
				}
				both++
				if s.p.Bars[i][k] || s.p.Bars[k][i] {
					t.Errorf("%v: ways %d and %d of %v", s.e, k, i, s)
				}
			}
			for _, section := range holdsYet(s.p, s.after, i) {
				holder[section]++
				if holder[section] > 1 {
					t.Errorf("%v: section %d of %v", s.e, section, s)
				}
			}
		}
	})
	if both < 1000 {
		t.Errorf("two ways were held only %d times", both)
	}
}

func TestP4Switches(t *testing.T) {
	seen := counted{}
	overRuns(t, 12, func(s stepTold) {
		for k, point := range s.after.Points {
			if point.Want == s.before.Points[k].Want {
				continue
			}
			by := impl.Lie{Switch: k, Lie: point.Want}
			byWay := s.e.Op == impl.EAsk && s.code == 0 && slices.Contains(needs(s.p.Ways[s.e.Of]), by)
			byHand := s.e.Op == impl.EMove && s.code == 0 && s.e.Of == k && s.e.Lie == point.Want
			seen["way"] += number(byWay)
			seen["hand"] += number(byHand)
			if !byWay && !byHand {
				t.Errorf("%v turns switch %d: %v", s.e, k, s)
			}
			if s.before.Occ[s.p.Switches[k]] {
				t.Errorf("%v turns switch %d under somebody: %v", s.e, k, s)
			}
			for i := range s.p.Ways {
				if modelWants(s.p, s.before, i, k) {
					t.Errorf("%v turns switch %d of way %d: %v", s.e, k, i, s)
				}
			}
		}
		for i, w := range s.p.Ways {
			for _, l := range needs(w) {
				if modelWants(s.p, s.after, i, l.Switch) && s.after.Points[l.Switch].Want != l.Lie {
					t.Errorf("%v: way %d wants switch %d otherwise: %v", s.e, i, l.Switch, s)
				}
			}
		}
	})
	seen.wantSome(t, 500, "way", "hand")
}

func TestP5SignalsAreClearOnlyWhileProved(t *testing.T) {
	seen := counted{}
	overRuns(t, 13, func(s stepTold) {
		for i, h := range s.after.Ways {
			if h.State == impl.WClear && !modelProved(s.p, s.after, i) {
				t.Errorf("%v: way %d is not proved: %v", s.e, i, s)
			}
			if h.State == impl.WSet && modelProved(s.p, s.after, i) {
				t.Errorf("%v: way %d is proved: %v", s.e, i, s)
			}
			was := s.before.Ways[i].State
			seen["cleared"] += number(was != impl.WClear && h.State == impl.WClear)
			seen["clear no more"] += number(was == impl.WClear && h.State == impl.WSet)
		}
	})
	seen.wantSome(t, 500, "cleared", "clear no more")
}

// One thing at a time is taken from a clear way; with it back the way is clear again.
func TestP5EachThingThatIsProved(t *testing.T) {
	p := station()
	clear := frameAt(t, p, ask(0), lies(1, 2))
	for _, c := range []struct{ lost, again impl.Event }{
		{lies(0, 0), lies(0, 1)}, {lies(0, 2), lies(0, 1)}, {lies(1, 0), lies(1, 2)}, {lies(1, 1), lies(1, 2)},
		{occ(1), free(1)}, {occ(2), free(2)}, {occ(3), free(3)},
	} {
		lost := impl.Do(p, clear, c.lost).Frame
		again := impl.Do(p, lost, c.again).Frame
		if lost.Ways[0].State != impl.WSet || !lost.Ways[0].Shown || picture(again) != picture(clear) {
			t.Errorf("%v: %s, then %s", c.lost, picture(lost), picture(again))
		}
	}
	if near := impl.Do(p, clear, occ(4)).Frame; near.Ways[0].State != impl.WClear {
		t.Errorf("somebody near: %s", picture(near))
	}
}

// letGo says in which of the promised ways a way of a step let go of a section, "" for none of them.
func letGo(s stepTold, way, at, ticks int) string {
	w, was := s.p.Ways[way], s.before.Ways[way]
	last := at == len(w.Sections)-1
	switch {
	case was.State == impl.WUsed && was.Been[at] && !s.after.Occ[w.Sections[at]] && (last || was.Been[at+1] || s.after.Occ[w.Sections[at+1]]):
		return "train"
	case s.e == back(way) && s.code == 0 && !was.Shown && was.State == impl.WSet:
		return "not shown"
	case s.e == back(way) && s.code == 0 && (was.State == impl.WSet || was.State == impl.WClear) && !anyIn(s.before, w.Near):
		return "nobody near"
	case s.e == tick() && was.State == impl.WTaking && ticks == s.p.Hold && !s.before.Occ[w.Sections[0]]:
		return "ticks"
	}
	return ""
}

func TestP6WhatLetsGo(t *testing.T) {
	seen := counted{}
	var ticks [impl.MaxWays]int
	overRuns(t, 14, func(s stepTold) {
		for i, w := range s.p.Ways {
			ticks[i] += number(s.e == tick())
			if s.before.Ways[i].State != impl.WTaking {
				ticks[i] = 0
			}
			was, is := holdsYet(s.p, s.before, i), holdsYet(s.p, s.after, i)
			for at, section := range w.Sections {
				if !slices.Contains(was, section) || slices.Contains(is, section) {
					continue
				}
				how := letGo(s, i, at, ticks[i])
				seen[how]++
				if how == "" {
					t.Errorf("%v: way %d lets go of section %d: %v", s.e, i, section, s)
				}
			}
			if gained := s.e != ask(i) && len(is) > len(was); gained {
				t.Errorf("%v: way %d holds more: %v", s.e, i, s)
			}
		}
	})
	seen.wantSome(t, 200, "train", "not shown", "nobody near", "ticks")
}

// Way 0 of the station in each held state, and every event: only those of the list let go of something.
func TestP6NothingElseLetsGo(t *testing.T) {
	p := station()
	var events []impl.Event
	for i := range 5 {
		events = append(events, occ(i), free(i))
	}
	for i := range 4 {
		events = append(events, ask(i), back(i))
	}
	for k := range 2 {
		events = append(events, lies(k, 0), lies(k, 1), lies(k, 2), move(k, 1), move(k, 2))
	}
	events = append(events, tick())
	for _, c := range []struct {
		from string
		by   map[impl.Event]int // how many sections are held behind it
	}{
		{"..... 1/1 2/1 s - - -", map[impl.Event]int{back(0): 0}},
		{"....# 1/1 2/1 s - - -", map[impl.Event]int{back(0): 0}},
		{"..... 1/1 2/1 s* - - -", map[impl.Event]int{back(0): 0}},
		{"....# 1/1 2/1 s* - - -", nil},
		{"..... 1/1 2/2 C* - - -", map[impl.Event]int{back(0): 0}},
		{"....# 1/1 2/2 C* - - -", nil},
		{"..... 1/1 2/2 t*@2 - - -", nil},
		{"....# 1/1 2/2 t*@1 - - -", map[impl.Event]int{tick(): 0}},
		{".#... 1/1 2/2 t*@1 - - -", map[impl.Event]int{tick(): 0}},
		{"#.... 1/1 2/2 u*0:100 - - -", nil},
		{"..... 1/1 2/2 u0:100 - - -", map[impl.Event]int{occ(1): 2}},
		{"##... 1/1 2/2 u*0:110 - - -", map[impl.Event]int{free(0): 2}},
		{"#.... 1/1 2/2 u*0:110 - - -", map[impl.Event]int{free(0): 2}},
		{"..#.. 1/1 2/2 u0:101 - - -", map[impl.Event]int{occ(1): 2}},
		{"#.#.. 1/1 2/2 u0:111 - - -", map[impl.Event]int{free(0): 1}},
		{"#.... 1/1 2/2 u0:111 - - -", map[impl.Event]int{free(0): 0}},
		{".##.. 1/1 2/2 u*1:111 - - -", map[impl.Event]int{free(1): 1}},
		{".#... 1/1 2/2 u*1:110 - - -", nil},
		{"..#.. 1/1 2/2 u*2:111 - - -", map[impl.Event]int{free(2): 0}},
	} {
		f := frameOf(p, c.from)
		for _, e := range events {
			want, lets := c.by[e]
			if !lets {
				want = len(holdsYet(p, f, 0))
			}
			if after := impl.Do(p, f, e).Frame; len(holdsYet(p, after, 0)) != want {
				t.Errorf("%s, %v: %s", c.from, e, picture(after))
			}
		}
	}
}

// lineOf is a way of so many sections, a switch in each and one beside, somebody's place ahead of it (n) and the section behind its end (n+1).
func lineOf(n, hold int) impl.Plan {
	w := impl.Way{Sections: span(0, n), Over: []int{n + 1}, Near: []int{n}}
	p := impl.Plan{Sections: n + 2, Hold: hold, Bars: squareOf(1, false)}
	for section := range n {
		p.Switches = append(p.Switches, section)
		w.Lies = append(w.Lies, impl.Lie{Switch: section, Lie: 2 - section%2})
	}
	p.Switches = append(p.Switches, n+1)
	w.Flanks = []impl.Lie{{Switch: n, Lie: 2}}
	p.Ways = []impl.Way{w}
	return p
}

// clearLine sets the way of a line, its switches known to lie in some order; it must be clear with the last.
func clearLine(t *testing.T, p impl.Plan, order []int) impl.Frame {
	t.Helper()
	var unknown []impl.Event
	for k := range p.Switches {
		unknown = append(unknown, lies(k, 0))
	}
	f := frameAt(t, p, append(unknown, ask(0))...)
	for i, k := range order {
		if f.Ways[0].State != impl.WSet || f.Ways[0].Shown {
			t.Fatalf("clear with %d of %d switches: %s", i, len(order), picture(f))
		}
		f = impl.Do(p, f, lies(k, f.Points[k].Want)).Frame
	}
	if f.Ways[0].State != impl.WClear || !f.Ways[0].Shown {
		t.Fatalf("not clear with the last switch: %s", picture(f))
	}
	return f
}

// The train is in so many sections at a time, 0 for one that is told to leave a section ahead of the next.
func TestP7TrainPasses(t *testing.T) {
	r := rand.New(rand.NewPCG(7, 2026))
	for n := 2; n <= 8; n++ {
		for length := range n + 2 {
			p := lineOf(n, 3)
			f := clearLine(t, p, r.Perm(n+1))
			for head := range n + max(length, 1) {
				if length == 0 && head > 0 {
					f = passStep(t, p, f, free(head-1), n, head-1+number(head == n))
				}
				if head < n {
					f = passStep(t, p, f, occ(head), n, max(0, head-length))
				}
				if tail := head - length; length > 0 && tail >= 0 {
					f = passStep(t, p, f, free(tail), n, min(n, tail+1))
				}
			}
			if length == 0 {
				f = passStep(t, p, f, free(n-1), n, n)
			}
			if picture(f) != picture(idleLine(p)) {
				t.Errorf("%d sections, a train of %d: %s is left", n, length, picture(f))
			}
		}
	}
}

// idleLine is a line behind a train: nobody is anywhere, and its switches lie as it wanted them.
func idleLine(p impl.Plan) impl.Frame {
	f := impl.Begin(p)
	for _, l := range needs(p.Ways[0]) {
		f.Points[l.Switch] = impl.Point{Want: l.Lie, Lies: l.Lie}
	}
	return f
}

func passStep(t *testing.T, p impl.Plan, f impl.Frame, e impl.Event, n, gone int) impl.Frame {
	t.Helper()
	done := impl.Do(p, f, e)
	h := done.Frame.Ways[0]
	want := impl.WUsed
	if gone == n {
		want, gone = impl.WIdle, 0
	}
	if done.Code != 0 || h.State != want || h.Gone != gone {
		t.Fatalf("%v: %s, then %s; %d are gone", e, picture(f), picture(done.Frame), gone)
	}
	return done.Frame
}

// A train that stands in the last section holds it, whatever happens elsewhere.
func TestP7StandsInTheLastSection(t *testing.T) {
	for n := 2; n <= 8; n++ {
		p := lineOf(n, 1)
		f := clearLine(t, p, span(0, n+1))
		for section := range n {
			f = impl.Do(p, f, occ(section)).Frame
		}
		for section := range n - 1 {
			f = impl.Do(p, f, free(section)).Frame
		}
		for _, e := range []impl.Event{tick(), occ(n), occ(n + 1), free(n + 1), tick(), lies(n, 0), free(0)} {
			f = passStep(t, p, f, e, n, n-1)
		}
		if done := impl.Do(p, f, ask(0)); done.Code != 2 {
			t.Errorf("%d sections: %d", n, done.Code)
		}
		passStep(t, p, f, free(n-1), n, n)
	}
}

func TestP8TakenBackWithSomebodyNear(t *testing.T) {
	for hold := 1; hold <= 40; hold++ {
		p := lineOf(2+hold%7, hold)
		n := len(p.Ways[0].Sections)
		f := frameAfter(p, clearLine(t, p, span(0, n+1)), occ(n), back(0))
		for left := hold; left > 0; left-- {
			want := impl.Held{State: impl.WTaking, Shown: true, Timer: left}
			if h := f.Ways[0]; h.State != want.State || h.Shown != want.Shown || h.Timer != want.Timer || h.Gone != 0 {
				t.Fatalf("Hold %d, %d left: %s", hold, left, picture(f))
			}
			if impl.Do(p, f, ask(0)).Code != 2 || impl.Do(p, f, back(0)).Code != 2 || impl.Do(p, f, move(0, 1)).Code != 2 {
				t.Errorf("Hold %d, %d left: not held", hold, left)
			}
			testComesIn(t, p, f)
			f = frameAfter(p, f, tick())
			if left == hold/2 { // that nobody is near any more does not end it
				f = frameAfter(p, f, free(n))
			}
		}
		if h := f.Ways[0]; h.State != impl.WIdle || h.Shown || h.Timer != 0 {
			t.Errorf("Hold %d: %s", hold, picture(f))
		}
	}
}

// testComesIn: somebody who comes in has the way, and no tick takes it from him.
func testComesIn(t *testing.T, p impl.Plan, f impl.Frame) {
	t.Helper()
	f = frameAfter(p, f, occ(0))
	for range p.Hold + 1 {
		if h := f.Ways[0]; h.State != impl.WUsed || h.Timer != 0 || !h.Shown || h.Gone != 0 {
			t.Fatalf("Hold %d, somebody came in: %s", p.Hold, picture(f))
		}
		f = frameAfter(p, f, tick())
	}
	for section := 1; section < len(p.Ways[0].Sections); section++ {
		f = frameAfter(p, f, occ(section), free(section-1))
		if f.Ways[0].Gone != section {
			t.Fatalf("Hold %d, in section %d: %s", p.Hold, section, picture(f))
		}
	}
	if f = frameAfter(p, f, free(len(p.Ways[0].Sections)-1)); f.Ways[0].State != impl.WIdle {
		t.Errorf("Hold %d, out again: %s", p.Hold, picture(f))
	}
}

func frameAfter(p impl.Plan, f impl.Frame, events ...impl.Event) impl.Frame {
	for _, e := range events {
		f = impl.Do(p, f, e).Frame
	}
	return f
}

func TestP8TakenBackWithNobodyNear(t *testing.T) {
	for hold := 1; hold <= 40; hold++ {
		p := lineOf(2+hold%7, hold)
		n := len(p.Ways[0].Sections)
		clear := clearLine(t, p, span(0, n+1))
		for _, events := range [][]impl.Event{{}, {occ(n), free(n)}, {occ(n + 1)}, {occ(1)}, {lies(0, 0)}} {
			f := frameAfter(p, frameAfter(p, clear, events...), back(0))
			if h := f.Ways[0]; h.State != impl.WIdle || h.Timer != 0 || h.Shown {
				t.Errorf("Hold %d, %v: %s", hold, events, picture(f))
			}
		}
		f := frameAt(t, p, lies(0, 0), occ(n), ask(0), back(0))
		if f.Ways[0].State != impl.WIdle {
			t.Errorf("Hold %d, never clear: %s", hold, picture(f))
		}
	}
}

func TestP8LongestHold(t *testing.T) {
	p := lineOf(2, 300)
	f := frameAfter(p, clearLine(t, p, span(0, 3)), occ(2), back(0))
	f = frameAfter(p, f, slices.Repeat([]impl.Event{tick()}, 299)...)
	if picture(f) != "..#. 2/2 1/1 2/2 t*@1" {
		t.Error(picture(f))
	}
	if f = frameAfter(p, f, tick()); picture(f) != "..#. 2/2 1/1 2/2 -" {
		t.Error(picture(f))
	}
}
