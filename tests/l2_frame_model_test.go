package tests

import (
	"math/rand/v2"
	"reflect"
	"slices"
	"testing"

	"loop.example/tappet/impl"
)

// The document's chapter 2 once more, and of chapter 3 what it leans on, as slowly as the words go.

func cloneFrame(f impl.Frame) impl.Frame {
	f.Occ, f.Points, f.Ways = slices.Clone(f.Occ), slices.Clone(f.Points), slices.Clone(f.Ways)
	for i := range f.Ways {
		f.Ways[i].Been = slices.Clone(f.Ways[i].Been)
	}
	return f
}

func modelBegin(p impl.Plan) impl.Frame {
	f := impl.Frame{Ok: true, Occ: make([]bool, p.Sections), Points: make([]impl.Point, len(p.Switches)), Ways: make([]impl.Held, len(p.Ways))}
	for k := range f.Points {
		f.Points[k] = impl.Point{Want: 1, Lies: 1}
	}
	for i := range f.Ways {
		f.Ways[i].Been = make([]bool, len(p.Ways[i].Sections))
	}
	return f
}

func anyIn(f impl.Frame, lists ...[]int) bool {
	return slices.ContainsFunc(slices.Concat(lists...), func(section int) bool { return f.Occ[section] })
}

func needs(w impl.Way) []impl.Lie { return slices.Concat(w.Lies, w.Flanks) }

func modelProved(p impl.Plan, f impl.Frame, way int) bool {
	w := p.Ways[way]
	for _, l := range needs(w) {
		if f.Points[l.Switch].Want != l.Lie || f.Points[l.Switch].Lies != l.Lie {
			return false
		}
	}
	return !anyIn(f, w.Sections, w.Over)
}

func modelSettled(p impl.Plan, f impl.Frame) impl.Frame {
	f = cloneFrame(f)
	for i := range f.Ways {
		h, w := &f.Ways[i], p.Ways[i]
		if h.State != impl.WIdle && h.State != impl.WUsed && f.Occ[w.Sections[0]] {
			h.State, h.Timer = impl.WUsed, 0
		}
		switch h.State {
		case impl.WSet, impl.WClear:
			h.State = impl.WSet
			if modelProved(p, f, i) {
				h.State, h.Shown = impl.WClear, true
			}
		case impl.WUsed:
			modelPassed(f, w, h)
		}
	}
	return f
}

func modelPassed(f impl.Frame, w impl.Way, h *impl.Held) {
	for at, section := range w.Sections {
		if f.Occ[section] {
			h.Been[at] = true
		}
	}
	for h.Gone < len(w.Sections) {
		at := h.Gone
		if !h.Been[at] || f.Occ[w.Sections[at]] {
			return
		}
		if at+1 < len(w.Sections) && !h.Been[at+1] {
			return
		}
		h.Gone++
	}
	*h = impl.Held{Been: make([]bool, len(w.Sections))}
}

func modelFrameOk(p impl.Plan, f impl.Frame) bool {
	if modelFault(p) != fault(0, 0) || !f.Ok || len(f.Occ) != p.Sections || len(f.Points) != len(p.Switches) || len(f.Ways) != len(p.Ways) {
		return false
	}
	for _, point := range f.Points {
		if !slices.Contains([]int{1, 2}, point.Want) || !slices.Contains([]int{0, 1, 2}, point.Lies) {
			return false
		}
	}
	for i, h := range f.Ways {
		if !modelHeldOk(p, p.Ways[i], h) {
			return false
		}
		for k, other := range f.Ways {
			if i != k && h.State != impl.WIdle && other.State != impl.WIdle && p.Bars[i][k] {
				return false
			}
		}
	}
	return reflect.DeepEqual(modelSettled(p, f), cloneFrame(f))
}

func modelHeldOk(p impl.Plan, w impl.Way, h impl.Held) bool {
	if h.State < 0 || h.State > 4 || len(h.Been) != len(w.Sections) || h.Gone < 0 || h.Gone >= len(w.Sections) {
		return false
	}
	if h.State != impl.WUsed && (h.Gone != 0 || slices.Contains(h.Been, true)) {
		return false
	}
	if h.State == impl.WUsed && slices.Contains(h.Been[:h.Gone], false) {
		return false
	}
	if h.State == impl.WTaking && (h.Timer < 1 || h.Timer > p.Hold) || h.State != impl.WTaking && h.Timer != 0 {
		return false
	}
	return !(h.State == impl.WIdle && h.Shown) && !((h.State == impl.WClear || h.State == impl.WTaking) && !h.Shown)
}

func modelWants(p impl.Plan, f impl.Frame, way, point int) bool {
	isIt := func(l impl.Lie) bool { return l.Switch == point }
	w, h := p.Ways[way], f.Ways[way]
	if h.State == impl.WIdle {
		return false
	}
	if slices.ContainsFunc(w.Flanks, isIt) {
		return true
	}
	return slices.ContainsFunc(w.Lies, isIt) && slices.Index(w.Sections, p.Switches[point]) >= h.Gone
}

func modelPointLock(p impl.Plan, f impl.Frame, point int) []int {
	var all []int
	if modelFrameOk(p, f) && point >= 0 && point < len(p.Switches) {
		for i := range p.Ways {
			if modelWants(p, f, i, point) {
				all = append(all, i)
			}
		}
	}
	return all
}

func modelWhyNot(p impl.Plan, f impl.Frame, way int) int {
	if !modelFrameOk(p, f) || way < 0 || way >= len(p.Ways) {
		return 1
	}
	w := p.Ways[way]
	inOf := func(list []int) func(int) bool { return func(s int) bool { return slices.Contains(list, s) } }
	reasons := map[int]bool{2: f.Ways[way].State != impl.WIdle, 4: anyIn(f, w.Sections, w.Over)}
	for i, other := range p.Ways {
		if i == way || f.Ways[i].State == impl.WIdle {
			continue
		}
		if p.Bars[i][way] || slices.ContainsFunc(w.Sections, inOf(other.Over)) || slices.ContainsFunc(w.Over, inOf(other.Sections)) {
			reasons[3] = true
		}
	}
	for _, l := range needs(w) {
		if f.Points[l.Switch].Want == l.Lie {
			continue
		}
		if len(modelPointLock(p, f, l.Switch)) > 0 {
			reasons[5] = true
		}
		if f.Occ[p.Switches[l.Switch]] {
			reasons[6] = true
		}
	}
	for code := 2; code <= 6; code++ {
		if reasons[code] {
			return code
		}
	}
	return 0
}

func modelEventOk(p impl.Plan, e impl.Event) bool {
	if modelFault(p) != fault(0, 0) || e.Of < 0 {
		return false
	}
	switch e.Op {
	case 1, 2:
		return e.Of < len(p.Ways) && e.Lie == 0
	case 3, 4:
		return e.Of < p.Sections && e.Lie == 0
	case 5:
		return e.Of < len(p.Switches) && slices.Contains([]int{0, 1, 2}, e.Lie)
	case 6:
		return e.Of < len(p.Switches) && slices.Contains([]int{1, 2}, e.Lie)
	}
	return e.Op == 7 && e.Of == 0 && e.Lie == 0
}

func modelDo(p impl.Plan, f impl.Frame, e impl.Event) impl.Done {
	if !modelFrameOk(p, f) || !modelEventOk(p, e) {
		return impl.Done{Code: 1}
	}
	next := cloneFrame(f)
	code := 0
	switch e.Op {
	case impl.EAsk:
		code = modelWhyNot(p, f, e.Of)
		if code == 0 {
			next.Ways[e.Of].State = impl.WSet
			for _, l := range needs(p.Ways[e.Of]) {
				next.Points[l.Switch].Want = l.Lie
			}
		}
	case impl.EBack:
		h := &next.Ways[e.Of]
		if h.State != impl.WSet && h.State != impl.WClear {
			code = 2
		} else if h.Shown && anyIn(f, p.Ways[e.Of].Near) {
			h.State, h.Timer = impl.WTaking, p.Hold
		} else {
			*h = impl.Held{Been: make([]bool, len(h.Been))}
		}
	case impl.EOcc, impl.EFree:
		next.Occ[e.Of] = e.Op == impl.EOcc
	case impl.ELies:
		next.Points[e.Of].Lies = e.Lie
	case impl.EMove:
		if len(modelPointLock(p, f, e.Of)) > 0 {
			code = 2
		} else if f.Occ[p.Switches[e.Of]] {
			code = 3
		} else {
			next.Points[e.Of].Want = e.Lie
		}
	case impl.ETick:
		modelTick(next)
	}
	return impl.Done{Code: code, Frame: modelSettled(p, next)}
}

func modelTick(f impl.Frame) {
	for i, h := range f.Ways {
		if h.State == impl.WTaking {
			f.Ways[i].Timer--
			if h.Timer == 1 {
				f.Ways[i] = impl.Held{Been: make([]bool, len(h.Been))}
			}
		}
	}
}

// drawnYard is a small plan, so that its ways are in each other's way.
func drawnYard(r *rand.Rand) impl.Plan {
	p := impl.Plan{Sections: 1 + r.IntN(12), Hold: 1 + r.IntN(4)}
	for range r.IntN(5) {
		p.Switches = append(p.Switches, r.IntN(p.Sections))
	}
	addWays(r, &p, 1+r.IntN(5))
	loosen(r, &p)
	return p
}

// loosen takes from what keeps ways apart: else hardly two would be held at one time.
func loosen(r *rand.Rand, p *impl.Plan) {
	for i := range p.Ways {
		w := &p.Ways[i]
		if r.IntN(2) == 0 {
			w.Over = nil
		}
		for k := range i {
			common := slices.ContainsFunc(w.Sections, func(s int) bool { return slices.Contains(p.Ways[k].Sections, s) })
			if !common && r.IntN(4) > 0 {
				p.Bars[i][k], p.Bars[k][i] = false, false
			}
		}
	}
}

// drawnEvent is mostly one that moves things on: a train along a held way, a switch to where it is wanted.
func drawnEvent(r *rand.Rand, p impl.Plan, f impl.Frame) impl.Event {
	way, section := r.IntN(len(p.Ways)), r.IntN(p.Sections)
	switch n := r.IntN(40); {
	case n < 8:
		return ask(way)
	case n < 11:
		return back(way)
	case n < 14:
		return occ(section)
	case n < 19:
		return free(section)
	case n < 23:
		return tick()
	case n < 33 && f.Ways[way].State != impl.WIdle:
		return drawnTrain(r, p.Ways[way], f.Ways[way])
	case n < 38 && len(p.Switches) > 0:
		return drawnTurn(r, f, r.IntN(len(p.Switches)))
	case n < 39:
		return impl.Event{Op: r.IntN(9), Of: r.IntN(p.Sections + 1), Lie: r.IntN(4)}
	}
	return free(section)
}

func drawnTrain(r *rand.Rand, w impl.Way, h impl.Held) impl.Event {
	if next := slices.Index(h.Been, false); next >= 0 && r.IntN(2) == 0 {
		return occ(w.Sections[next])
	}
	return free(w.Sections[h.Gone])
}

func drawnTurn(r *rand.Rand, f impl.Frame, point int) impl.Event {
	switch r.IntN(8) {
	case 0:
		return lies(point, r.IntN(3))
	case 1, 2:
		return move(point, 1+r.IntN(2))
	}
	return lies(point, f.Points[point].Want)
}

// disturbFrame changes one number of a frame; often that makes it none, not always.
func disturbFrame(r *rand.Rand, p impl.Plan, f *impl.Frame) {
	h := &f.Ways[r.IntN(len(f.Ways))]
	switch r.IntN(11) {
	case 0:
		h.State = around(r, 4)
	case 1:
		h.Gone = around(r, len(h.Been))
	case 2:
		h.Shown = !h.Shown
	case 3:
		h.Timer = around(r, p.Hold)
	case 4, 5:
		if len(h.Been) > 0 {
			at := r.IntN(len(h.Been))
			h.Been[at] = !h.Been[at]
		}
	case 6:
		section := r.IntN(len(f.Occ))
		f.Occ[section] = !f.Occ[section]
	case 7:
		*h = impl.Held{State: r.IntN(5), Been: make([]bool, len(h.Been)), Shown: r.IntN(2) == 0}
	case 8:
		h.Been = make([]bool, max(0, len(h.Been)+r.IntN(3)-1))
	default:
		if len(f.Points) > 0 {
			point := &f.Points[r.IntN(len(f.Points))]
			*[]*int{&point.Want, &point.Lies}[r.IntN(2)] = around(r, 2)
		}
	}
}

func sameDone(a, b impl.Done) bool {
	return a.Code == b.Code && reflect.DeepEqual(tidy(a.Frame), tidy(b.Frame))
}

// tidy makes every empty list nil: they are the same value.
func tidy(f impl.Frame) impl.Frame {
	f.Occ, f.Points, f.Ways = tidyList(f.Occ), tidyList(f.Points), tidyList(slices.Clone(f.Ways))
	for i := range f.Ways {
		f.Ways[i].Been = tidyList(f.Ways[i].Been)
	}
	return f
}

func tidyList[T any](list []T) []T {
	if len(list) == 0 {
		return nil
	}
	return list
}

// counted says how often something was drawn, and fails if it was hardly ever.
type counted map[string]int

func (c counted) wantSome(t *testing.T, least int, keys ...string) {
	t.Helper()
	for _, key := range keys {
		if c[key] < least {
			t.Errorf("%s was drawn only %d times", key, c[key])
		}
	}
}

func codeKey(op, code int) string {
	return []string{"none", "ask", "back", "occ", "free", "lies", "move", "tick"}[op*number(op > 0 && op < 8)] + " " + string(rune('0'+code))
}

// drawnRun is a run of a drawn yard, event by event as the model answers.
func drawnRun(r *rand.Rand, length int) (p impl.Plan, events []impl.Event, all []impl.Done) {
	p = drawnYard(r)
	f := modelBegin(p)
	for range length {
		e := drawnEvent(r, p, f)
		done := modelDo(p, f, e)
		if !modelEventOk(p, e) {
			done.Frame = cloneFrame(f)
		}
		events, all = append(events, e), append(all, done)
		f = done.Frame
	}
	return p, events, all
}

func TestRunAsTheModel(t *testing.T) {
	r := rand.New(rand.NewPCG(2, 2026))
	seen := counted{}
	for range 2000 {
		p, events, want := drawnRun(r, 60)
		got := impl.Run(p, events)
		if len(got) != len(want) {
			t.Fatalf("%d of %d events", len(got), len(want))
		}
		f := impl.Begin(p)
		if !reflect.DeepEqual(tidy(f), tidy(modelBegin(p))) {
			t.Fatalf("the beginning is %s of %+v", picture(f), p)
		}
		for i, e := range events {
			if !sameDone(got[i], want[i]) {
				t.Fatalf("%v: got %d %s, want %d %s, behind %s of %+v", e, got[i].Code, picture(got[i].Frame), want[i].Code, picture(want[i].Frame), picture(f), p)
			}
			if !impl.FrameOk(p, got[i].Frame) {
				t.Fatalf("%s of a run is no frame of %+v", picture(got[i].Frame), p)
			}
			if done := impl.Do(p, f, e); !sameDone(done, modelDo(p, f, e)) {
				t.Fatalf("%v: Do answers %d %s behind %s of %+v", e, done.Code, picture(done.Frame), picture(f), p)
			}
			seen[codeKey(e.Op, want[i].Code)]++
			f = got[i].Frame
		}
	}
	seen.wantSome(t, 100, "ask 0", "ask 1", "ask 2", "ask 3", "ask 4", "ask 5", "ask 6", "back 0", "back 1", "back 2", "occ 0", "free 0", "lies 0", "lies 1", "move 0", "move 2", "move 3", "tick 0", "none 1")
}

func TestFrameAsTheModel(t *testing.T) {
	r := rand.New(rand.NewPCG(3, 2026))
	var ok, none int
	for range 2000 {
		p, _, all := drawnRun(r, 30)
		for _, done := range all {
			f := cloneFrame(done.Frame)
			for range 1 + r.IntN(3) {
				disturbFrame(r, p, &f)
			}
			want := modelFrameOk(p, f)
			ok, none = ok+number(want), none+number(!want)
			if got := impl.FrameOk(p, f); got != want {
				t.Fatalf("%v: %s of %+v", got, picture(f), p)
			}
			testAsked(t, r, p, f)
		}
	}
	if ok < 5000 || none < 5000 {
		t.Errorf("%d frames, %d that are none", ok, none)
	}
}

// testAsked holds the answers of one frame, which may be none, against the model's.
func testAsked(t *testing.T, r *rand.Rand, p impl.Plan, f impl.Frame) {
	t.Helper()
	e := impl.Event{Op: r.IntN(9), Of: around(r, 5), Lie: r.IntN(4) - r.IntN(2)}
	if modelFrameOk(p, f) && r.IntN(4) > 0 {
		e = drawnEvent(r, p, f)
	}
	if got, want := impl.EventOk(p, e), modelEventOk(p, e); got != want {
		t.Fatalf("%v is an event: %v of %+v", e, got, p)
	}
	if got, want := impl.Do(p, f, e), modelDo(p, f, e); !sameDone(got, want) {
		t.Fatalf("%v: got %d %s, want %d %s, behind %s of %+v", e, got.Code, picture(got.Frame), want.Code, picture(want.Frame), picture(f), p)
	}
	testLocks(t, p, f)
}
