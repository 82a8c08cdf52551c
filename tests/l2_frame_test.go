package tests

import (
	"reflect"
	"slices"
	"strconv"
	"strings"
	"testing"

	"loop.example/tappet/impl"
)

func ask(way int) impl.Event         { return impl.Event{Op: impl.EAsk, Of: way} }
func back(way int) impl.Event        { return impl.Event{Op: impl.EBack, Of: way} }
func occ(section int) impl.Event     { return impl.Event{Op: impl.EOcc, Of: section} }
func free(section int) impl.Event    { return impl.Event{Op: impl.EFree, Of: section} }
func lies(point, lie int) impl.Event { return impl.Event{Op: impl.ELies, Of: point, Lie: lie} }
func move(point, lie int) impl.Event { return impl.Event{Op: impl.EMove, Of: point, Lie: lie} }
func tick() impl.Event               { return impl.Event{Op: impl.ETick} }

// picture shows all of a frame: sections, of each switch Want/Lies, of each way its state, * for Shown, Gone:Been, @Timer.
func picture(f impl.Frame) string {
	var b strings.Builder
	if !f.Ok {
		b.WriteString("none ")
	}
	for _, somebody := range f.Occ {
		b.WriteByte(".#"[number(somebody)])
	}
	for _, point := range f.Points {
		b.WriteString(" " + strconv.Itoa(point.Want) + "/" + strconv.Itoa(point.Lies))
	}
	for _, h := range f.Ways {
		b.WriteString(" " + pictureOfWay(h))
	}
	return b.String()
}

func pictureOfWay(h impl.Held) string {
	text := "?"
	if h.State >= 0 && h.State < 5 {
		text = "-sCtu"[h.State : h.State+1]
	}
	if h.Shown {
		text += "*"
	}
	if h.State == impl.WUsed || h.Gone != 0 || slices.Contains(h.Been, true) {
		text += strconv.Itoa(h.Gone) + ":"
		for _, been := range h.Been {
			text += strconv.Itoa(number(been))
		}
	}
	if h.Timer != 0 {
		text += "@" + strconv.Itoa(h.Timer)
	}
	return text
}

func number(b bool) int {
	if b {
		return 1
	}
	return 0
}

// frameOf reads a picture.
func frameOf(p impl.Plan, text string) impl.Frame {
	f := impl.Frame{Ok: true}
	fields := strings.Fields(text)
	for _, sign := range fields[0] {
		f.Occ = append(f.Occ, sign == '#')
	}
	for _, field := range fields[1:] {
		if want, known, ok := strings.Cut(field, "/"); ok {
			f.Points = append(f.Points, impl.Point{Want: digits(want), Lies: digits(known)})
		} else {
			f.Ways = append(f.Ways, wayOf(field, len(p.Ways[len(f.Ways)].Sections)))
		}
	}
	return f
}

func wayOf(field string, sections int) impl.Held {
	h := impl.Held{State: strings.Index("-sCtu", field[:1]), Been: make([]bool, sections)}
	field, timer, _ := strings.Cut(field[1:], "@")
	h.Timer = digits(timer)
	field, h.Shown = strings.CutPrefix(field, "*")
	gone, been, _ := strings.Cut(field, ":")
	h.Gone = digits(gone)
	for i, sign := range been {
		h.Been[i] = sign == '1'
	}
	return h
}

// digits is the number of a text, 0 of none.
func digits(text string) int {
	n, _ := strconv.Atoi(text)
	return n
}

// frameAt is the frame behind events that are all done.
func frameAt(t *testing.T, p impl.Plan, events ...impl.Event) impl.Frame {
	t.Helper()
	f := impl.Begin(p)
	for _, e := range events {
		done := impl.Do(p, f, e)
		if done.Code != 0 {
			t.Fatalf("%v of %s: code %d", e, picture(f), done.Code)
		}
		f = done.Frame
	}
	return f
}

type step struct {
	e    impl.Event
	code int
	want string
}

// testSteps takes the steps one by one with Do, and all at once with Run.
func testSteps(t *testing.T, what string, p impl.Plan, steps []step) {
	t.Helper()
	f := impl.Begin(p)
	var events []impl.Event
	for i, s := range steps {
		events = append(events, s.e)
		done := impl.Do(p, f, s.e)
		if done.Code != s.code || picture(done.Frame) != s.want {
			t.Errorf("%s, step %d, %v: got %d %s, want %d %s", what, i, s.e, done.Code, picture(done.Frame), s.code, s.want)
		}
		if !impl.FrameOk(p, done.Frame) {
			t.Errorf("%s, step %d: %s is no frame", what, i, picture(done.Frame))
			return
		}
		f = done.Frame
	}
	for i, done := range impl.Run(p, events) {
		if done.Code != steps[i].code || picture(done.Frame) != steps[i].want {
			t.Errorf("%s, run, step %d: got %d %s", what, i, done.Code, picture(done.Frame))
		}
	}
}

func TestFrameConstantsAreTheDocuments(t *testing.T) {
	if got := [7]int{impl.EAsk, impl.EBack, impl.EOcc, impl.EFree, impl.ELies, impl.EMove, impl.ETick}; got != [7]int{1, 2, 3, 4, 5, 6, 7} {
		t.Error(got)
	}
	if got := [5]int{impl.WIdle, impl.WSet, impl.WClear, impl.WTaking, impl.WUsed}; got != [5]int{0, 1, 2, 3, 4} {
		t.Error(got)
	}
	if impl.MaxEvents != 1000 {
		t.Error(impl.MaxEvents)
	}
}

// wrongPlans are plans of each fault.
func wrongPlans() []impl.Plan {
	var all []impl.Plan
	for _, spoil := range []func(p *impl.Plan){
		func(p *impl.Plan) { p.Hold = 301 },
		func(p *impl.Plan) { p.Switches[1] = 5 },
		func(p *impl.Plan) { p.Ways[2].Over = []int{4} },
		func(p *impl.Plan) { p.Bars = p.Bars[:3] },
		func(p *impl.Plan) { p.Bars[0][1] = false },
		func(p *impl.Plan) { *p = impl.Plan{} },
	} {
		p := station()
		spoil(&p)
		all = append(all, p)
	}
	return all
}

func TestEventOk(t *testing.T) {
	numbers := append(farOff(), -3, 0, 1, 2, 3, 4, 5, 6, 7, 8, 9)
	ofs := map[int]int{1: 4, 2: 4, 3: 5, 4: 5, 5: 2, 6: 2, 7: 1} // how many there are to be spoken of
	lies := map[int][]int{1: {0}, 2: {0}, 3: {0}, 4: {0}, 5: {0, 1, 2}, 6: {1, 2}, 7: {0}}
	right := 0
	for _, op := range numbers {
		for _, of := range numbers {
			for _, lie := range numbers {
				e := impl.Event{Op: op, Of: of, Lie: lie}
				want := of >= 0 && of < ofs[op] && slices.Contains(lies[op], lie)
				right += number(want)
				if got := impl.EventOk(station(), e); got != want {
					t.Errorf("%v: %v", e, got)
				}
				for _, p := range wrongPlans() {
					if want && impl.EventOk(p, e) {
						t.Errorf("%v for a plan that is not right: %v", e, impl.PlanOk(p))
					}
				}
			}
		}
	}
	if right != 4+4+5+5+6+4+1 {
		t.Error(right)
	}
}

func TestEventOkAtTheLimits(t *testing.T) {
	p := impl.Plan{Sections: 60, Hold: 300, Switches: make([]int, 40), Bars: squareOf(100, true)}
	for range 100 {
		p.Ways = append(p.Ways, impl.Way{Sections: []int{0}})
	}
	least := impl.Plan{Sections: 1, Hold: 1}
	for _, c := range []struct {
		p    impl.Plan
		e    impl.Event
		want bool
	}{
		{p, ask(99), true}, {p, ask(100), false}, {p, back(99), true}, {p, back(100), false},
		{p, occ(59), true}, {p, occ(60), false}, {p, free(59), true}, {p, free(60), false},
		{p, lies(39, 2), true}, {p, lies(40, 2), false}, {p, move(39, 2), true}, {p, move(40, 2), false},
		{least, ask(0), false}, {least, back(0), false}, {least, occ(0), true}, {least, free(0), true},
		{least, lies(0, 1), false}, {least, move(0, 1), false}, {least, tick(), true}, {least, occ(1), false},
		{least, impl.Event{}, false},
	} {
		if got := impl.EventOk(c.p, c.e); got != c.want {
			t.Errorf("%v: %v", c.e, got)
		}
	}
}

func TestBegin(t *testing.T) {
	idle := func(sections int) impl.Held { return impl.Held{Been: make([]bool, sections)} }
	want := impl.Frame{
		Ok:     true,
		Occ:    make([]bool, 5),
		Points: []impl.Point{{Want: 1, Lies: 1}, {Want: 1, Lies: 1}},
		Ways:   []impl.Held{idle(3), idle(2), idle(2), idle(1)},
	}
	if got := impl.Begin(station()); !reflect.DeepEqual(got, want) {
		t.Errorf("%+v", got)
	}
	least := impl.Begin(impl.Plan{Sections: 1, Hold: 1})
	if !least.Ok || len(least.Occ) != 1 || len(least.Points) != 0 || len(least.Ways) != 0 {
		t.Errorf("%+v", least)
	}
	for _, p := range wrongPlans() {
		if got := impl.Begin(p); got.Ok || len(got.Occ) != 0 || len(got.Points) != 0 || len(got.Ways) != 0 {
			t.Errorf("fault %v: %+v", impl.PlanOk(p), got)
		}
	}
}

// Frames of the station that are ones, whether a run gets to them or not.
func rightFrames() []string {
	return []string{
		"..... 1/1 1/1 - - - -",
		"##### 2/0 1/2 - - - -",
		"..#.. 2/1 2/2 - - - -",
		"..... 1/1 2/1 s - - -",
		"..... 1/1 2/0 s* - - -",
		"..... 1/2 2/2 s - - -",
		"..... 2/1 2/2 s - - -",
		"..... 2/2 1/1 s* - - -",
		".#... 1/1 2/2 s - - -",
		"..#.. 1/1 2/2 s* - - -",
		"...#. 1/1 2/2 s* - - -",
		".###. 1/1 2/2 s - - -",
		"..... 1/1 2/2 C* - - -",
		"....# 1/1 2/2 C* - - -",
		"..... 1/1 2/2 t*@1 - - -",
		"....# 1/1 2/2 t*@7 - - -",
		".#### 2/0 1/0 t*@3 - - -",
		"#.... 1/1 2/2 u0:100 - - -",
		"#.... 1/1 2/2 u*0:100 - - -",
		"#.... 2/0 1/0 u0:100 - - -",
		"..... 1/1 2/2 u0:100 - - -",
		"..... 1/1 2/2 u0:000 - - -",
		"..... 1/1 2/2 u*0:010 - - -",
		"..... 1/1 2/2 u*0:011 - - -",
		"#.#.. 1/1 2/2 u0:101 - - -",
		"..#.. 1/1 2/2 u0:101 - - -",
		"##... 1/1 2/2 u*0:110 - - -",
		"#.... 1/1 2/2 u*0:111 - - -",
		".#... 1/1 2/2 u*1:110 - - -",
		"..... 1/1 2/2 u*1:110 - - -",
		"..... 1/1 2/2 u*1:100 - - -",
		"#.... 1/1 2/2 u*1:110 - - -",
		".#... 1/1 2/2 u*1:111 - - -",
		"..#.. 1/1 2/2 u*2:111 - - -",
		"..... 1/1 2/2 u*2:110 - - -",
		"###.. 1/1 2/2 u*2:111 - - -",
		"..... 2/2 1/1 - C* - -",
		"..... 2/2 1/1 - C* - s",
		"..... 1/1 2/2 C* - s -",
		"..... 1/1 2/2 C* - - s",
		"..... 1/1 1/1 - - C* -",
		"....# 1/1 1/1 - - u*0:10 -",
		"..... 1/1 1/1 - - - C*",
		"....# 1/1 1/1 - - - u0:1",
		"..... 1/1 1/1 - - - u0:0",
		"#...# 1/1 2/2 u*0:100 - u0:10 -",
	}
}

func TestFrameOkRight(t *testing.T) {
	p := station()
	for _, text := range rightFrames() {
		f := frameOf(p, text)
		if picture(f) != text {
			t.Fatalf("%s is read as %s", text, picture(f))
		}
		if !impl.FrameOk(p, f) {
			t.Errorf("%s is a frame", text)
		}
		for _, wrong := range wrongPlans() {
			if impl.FrameOk(wrong, f) {
				t.Errorf("%s, for a plan with the fault %v", text, impl.PlanOk(wrong))
			}
		}
	}
	least := impl.Plan{Sections: 1, Hold: 1}
	if !impl.FrameOk(least, impl.Frame{Ok: true, Occ: []bool{true}}) || !impl.FrameOk(least, impl.Frame{Ok: true, Occ: []bool{false}, Points: []impl.Point{}, Ways: []impl.Held{}}) {
		t.Error("the least plan's frame")
	}
}

func TestFrameOkWrong(t *testing.T) {
	p := station()
	for _, c := range []struct{ what, text string }{
		{"Shown of an idle one", "..... 1/1 1/1 -* - - -"},
		{"Gone of an idle one", "..... 1/1 1/1 -1:000 - - -"},
		{"Been of an idle one", "..... 1/1 1/1 -0:100 - - -"},
		{"Been and Gone of an idle one", "..... 1/1 1/1 -1:110 - - -"},
		{"Timer of an idle one", "..... 1/1 1/1 -@1 - - -"},
		{"Gone of a set one", "..... 1/1 2/1 s1:000 - - -"},
		{"Been of a set one", "..... 1/1 2/1 s0:001 - - -"},
		{"Timer of a set one", "..... 1/1 2/1 s@7 - - -"},
		{"Timer of a set one that was clear", "..... 1/1 2/1 s*@1 - - -"},
		{"a clear one that was not", "..... 1/1 2/2 C - - -"},
		{"Gone of a clear one", "..... 1/1 2/2 C*2:000 - - -"},
		{"Been of a clear one", "..... 1/1 2/2 C*0:010 - - -"},
		{"Timer of a clear one", "..... 1/1 2/2 C*@1 - - -"},
		{"one taken back that was not clear", "..... 1/1 2/2 t@1 - - -"},
		{"one taken back without time", "..... 1/1 2/2 t* - - -"},
		{"one taken back for too long", "..... 1/1 2/2 t*@8 - - -"},
		{"one taken back for less than nothing", "..... 1/1 2/2 t*@-1 - - -"},
		{"Gone of one taken back", "..... 1/1 2/2 t*1:000@3 - - -"},
		{"Been of one taken back", "..... 1/1 2/2 t*0:100@3 - - -"},
		{"Timer of a used one", "#.... 1/1 2/2 u*0:100@1 - - -"},
		{"all of a used one gone", "..... 1/1 2/2 u*3:111 - - -"},
		{"more of a used one gone than there are", "..... 1/1 2/2 u*4:111 - - -"},
		{"fewer than none gone", "#.... 1/1 2/2 u*-1:100 - - -"},
		{"gone where no train was", "..... 1/1 2/2 u*1:000 - - -"},
		{"gone where no train was, the second", "..... 1/1 2/2 u*2:101 - - -"},
		{"gone where no train was, the first", "..... 1/1 2/2 u*2:011 - - -"},
		{"two that exclude each other, set", "..... 1/0 2/1 s s - -"},
		{"two that exclude each other, clear", "..... 2/2 1/1 - C* C* -"},
		{"the last two", "..... 1/1 1/1 - - C* C*"},
		{"two that exclude each other, used and taken back", ".#... 1/1 2/2 u*1:110 t*@3 - -"},
		{"to settle: a set one is used", "#.... 1/1 2/1 s - - -"},
		{"to settle: a clear one is used", "#.... 1/1 2/2 C* - - -"},
		{"to settle: one taken back is used", "#.... 1/1 2/2 t*@3 - - -"},
		{"to settle: a set one is clear", "..... 1/1 2/2 s - - -"},
		{"to settle: a set one is clear again", "..... 1/1 2/2 s* - - -"},
		{"to settle: one without switches is clear", "..... 1/1 1/1 - - - s"},
		{"to settle: not clear, a switch on it not known", "..... 1/0 2/2 C* - - -"},
		{"to settle: not clear, a switch on it wanted otherwise", "..... 2/1 2/2 C* - - -"},
		{"to settle: not clear, a switch beside it lies otherwise", "..... 1/1 2/1 C* - - -"},
		{"to settle: not clear, a switch beside it wanted otherwise", "..... 1/1 1/2 C* - - -"},
		{"to settle: not clear, somebody in the second section", ".#... 1/1 2/2 C* - - -"},
		{"to settle: not clear, somebody in the last section", "..#.. 1/1 2/2 C* - - -"},
		{"to settle: not clear, somebody behind its end", "...#. 1/1 2/2 C* - - -"},
		{"to settle: not clear, somebody behind its end, the last", ".#... 1/1 1/1 - - C* -"},
		{"to settle: somebody is in the first section", "#.... 1/1 2/2 u0:000 - - -"},
		{"to settle: somebody is in the last section", "..#.. 1/1 2/2 u*2:110 - - -"},
		{"to settle: the first is let go of", "..... 1/1 2/2 u*0:110 - - -"},
		{"to settle: the first is let go of, behind a train", ".#... 1/1 2/2 u*0:110 - - -"},
		{"to settle: the second is let go of", "..#.. 1/1 2/2 u*1:111 - - -"},
		{"to settle: all are let go of", "..... 1/1 2/2 u*0:111 - - -"},
		{"to settle: the last is let go of", "..... 1/1 2/2 u*2:111 - - -"},
		{"to settle: the only one is let go of", "..... 1/1 1/1 - - - u0:1"},
		{"to settle: a later way", "....# 1/1 1/1 - - - C*"},
	} {
		f := frameOf(p, c.text)
		if picture(f) != c.text {
			t.Fatalf("%s is read as %s", c.text, picture(f))
		}
		if impl.FrameOk(p, f) {
			t.Errorf("%s: %s is no frame", c.what, c.text)
		}
	}
}

// Each of these makes a frame none, whatever the frame was.
func spoilFrame() map[string]func(f *impl.Frame) {
	all := map[string]func(f *impl.Frame){
		"not Ok":           func(f *impl.Frame) { f.Ok = false },
		"no Occ":           func(f *impl.Frame) { f.Occ = nil },
		"an Occ missing":   func(f *impl.Frame) { f.Occ = f.Occ[:4] },
		"an Occ too many":  func(f *impl.Frame) { f.Occ = append(f.Occ, false) },
		"no Points":        func(f *impl.Frame) { f.Points = nil },
		"a Point missing":  func(f *impl.Frame) { f.Points = f.Points[:1] },
		"a Point too many": func(f *impl.Frame) { f.Points = append(f.Points, impl.Point{Want: 1, Lies: 1}) },
		"no Ways":          func(f *impl.Frame) { f.Ways = nil },
		"a way missing":    func(f *impl.Frame) { f.Ways = f.Ways[:3] },
		"a way too many":   func(f *impl.Frame) { f.Ways = append(f.Ways, impl.Held{Been: []bool{false}}) },
		"nothing":          func(f *impl.Frame) { *f = impl.Frame{} },
		"nothing but Ok":   func(f *impl.Frame) { *f = impl.Frame{Ok: true} },
	}
	for i := range 4 {
		at := " " + strconv.Itoa(i)
		all["no Been"+at] = func(f *impl.Frame) { f.Ways[i].Been = nil }
		all["a Been missing"+at] = func(f *impl.Frame) { f.Ways[i].Been = f.Ways[i].Been[1:] }
		all["a Been too many"+at] = func(f *impl.Frame) { f.Ways[i].Been = append(f.Ways[i].Been, false) }
		all["far too many Been"+at] = func(f *impl.Frame) { f.Ways[i].Been = make([]bool, 99) }
		for _, n := range append(farOff(), 5) {
			to := at + " " + strconv.Itoa(n)
			all["State"+to] = func(f *impl.Frame) { f.Ways[i].State = n }
			all["Gone"+to] = func(f *impl.Frame) { f.Ways[i].Gone = n }
			all["Timer"+to] = func(f *impl.Frame) { f.Ways[i].Timer = n + 10*number(n == 5) }
		}
	}
	for k := range 2 {
		for _, n := range append(farOff(), 3) {
			to := " " + strconv.Itoa(k) + " " + strconv.Itoa(n)
			all["Want"+to] = func(f *impl.Frame) { f.Points[k].Want = n }
			all["Lies"+to] = func(f *impl.Frame) { f.Points[k].Lies = n }
		}
		all["Want 0 "+strconv.Itoa(k)] = func(f *impl.Frame) { f.Points[k].Want = 0 }
	}
	return all
}

func TestFrameOkSpoiled(t *testing.T) {
	p := station()
	for what, spoil := range spoilFrame() {
		for _, text := range rightFrames() {
			f := frameOf(p, text)
			spoil(&f)
			if impl.FrameOk(p, f) {
				t.Errorf("%s: %s is no frame", what, picture(f))
			}
			if done := impl.Do(p, f, tick()); done.Code != 1 || !isZero(done.Frame) {
				t.Errorf("%s: Do answers %+v", what, done)
			}
		}
	}
}

func isZero(f impl.Frame) bool {
	return !f.Ok && len(f.Occ) == 0 && len(f.Points) == 0 && len(f.Ways) == 0
}

func TestFrameOkHold(t *testing.T) {
	p := station()
	f := frameOf(p, "..... 1/1 2/2 t*@1 - - -")
	for _, hold := range []int{1, 2, 40, 299, 300} {
		p.Hold = hold
		for timer := -1; timer <= 302; timer++ {
			f.Ways[0].Timer = timer
			if got := impl.FrameOk(p, f); got != (timer >= 1 && timer <= hold) {
				t.Errorf("Hold %d, Timer %d: %v", hold, timer, got)
			}
		}
	}
}
