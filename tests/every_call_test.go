package tests

import (
	"go/ast"
	"go/parser"
	"go/token"
	"maps"
	"math/rand/v2"
	"path/filepath"
	"reflect"
	"slices"
	"testing"

	"loop.example/tappet/impl"
)

// Promise P11, of every exported function: nothing is written into an argument, and the same argument has the same answer.

// asked is what the functions are asked with, each with what it takes of it.
type asked struct {
	Plan   impl.Plan
	Frame  impl.Frame
	Event  impl.Event
	Events []impl.Event
	Of     int
}

// everyCall is every exported function, by its name.
func everyCall() map[string]func(a asked) any {
	return map[string]func(a asked) any{
		"PlanOk":    func(a asked) any { return impl.PlanOk(a.Plan) },
		"EventOk":   func(a asked) any { return impl.EventOk(a.Plan, a.Event) },
		"Begin":     func(a asked) any { return impl.Begin(a.Plan) },
		"FrameOk":   func(a asked) any { return impl.FrameOk(a.Plan, a.Frame) },
		"Do":        func(a asked) any { return impl.Do(a.Plan, a.Frame, a.Event) },
		"Run":       func(a asked) any { return impl.Run(a.Plan, a.Events) },
		"Proved":    func(a asked) any { return impl.Proved(a.Plan, a.Frame, a.Of) },
		"LockedBy":  func(a asked) any { return impl.LockedBy(a.Plan, a.Frame, a.Of) },
		"PointLock": func(a asked) any { return impl.PointLock(a.Plan, a.Frame, a.Of) },
		"WhyNot":    func(a asked) any { return impl.WhyNot(a.Plan, a.Frame, a.Of) },
		"Blocked":   func(a asked) any { return impl.Blocked(a.Plan, a.Frame, a.Of) },
		"Shown":     func(a asked) any { return impl.Shown(a.Plan, a.Frame) },
		"Answer":    func(a asked) any { return impl.Answer(a.Plan, a.Events) },
	}
}

func TestEveryCallIsThere(t *testing.T) {
	var exported []string
	files, _ := filepath.Glob("../impl/*.go")
	for _, name := range files {
		file, err := parser.ParseFile(token.NewFileSet(), name, nil, 0)
		if err != nil {
			t.Fatal(err)
		}
		for _, d := range file.Decls {
			if f, ok := d.(*ast.FuncDecl); ok && f.Recv == nil && f.Name.IsExported() {
				exported = append(exported, f.Name.Name)
			}
		}
	}
	slices.Sort(exported)
	if got := slices.Sorted(maps.Keys(everyCall())); !slices.Equal(got, exported) {
		t.Errorf("asked are %v, there are %v", got, exported)
	}
}

// drawnAsked is mostly a right plan with a frame of it; now and then the plan, the frame or an event is none.
func drawnAsked(r *rand.Rand) asked {
	p, events, all := drawnRun(r, 2+r.IntN(40))
	a := asked{Plan: p, Events: events, Of: r.IntN(6)}
	switch r.IntN(3) {
	case 0:
		a.Frame = drawnFrame(r, p)
		a.Event = drawnEvent(r, p, a.Frame)
	case 1:
		a.Frame = all[r.IntN(len(all))].Frame
		a.Event = drawnEvent(r, p, a.Frame)
	default:
		at := rarest(all[1:])
		a.Frame, a.Event = cloneFrame(all[at].Frame), events[at+1]
	}
	switch r.IntN(12) {
	case 0:
		disturb(r, &a.Plan)
	case 1, 2:
		disturbFrame(r, p, &a.Frame)
	case 3:
		a.Event = impl.Event{Op: r.IntN(9), Of: around(r, 5), Lie: around(r, 2)}
		a.Of = around(r, 5)
	case 4:
		a.Plan = drawnPlan(r)
	case 5:
		a.Frame = impl.Frame{}
	}
	if r.IntN(200) == 0 {
		a.Events = slices.Repeat(a.Events, 1000)[:1000+r.IntN(2)]
	}
	return a
}

// rarest is where a run has its highest Code: those come up least.
func rarest(all []impl.Done) int {
	best := 0
	for i, done := range all {
		if done.Code > all[best].Code {
			best = i
		}
	}
	return best
}

// answersOf asks every function, in an order that is drawn.
func answersOf(r *rand.Rand, a asked) map[string]any {
	calls := everyCall()
	names := slices.Sorted(maps.Keys(calls))
	r.Shuffle(len(names), func(i, k int) { names[i], names[k] = names[k], names[i] })
	answers := map[string]any{}
	for _, name := range names {
		answers[name] = calls[name](a)
	}
	return answers
}

// countAsked counts what was asked with.
func countAsked(seen counted, a asked) {
	seen["a plan that is not right"] += number(impl.PlanOk(a.Plan) != impl.Fault{})
	seen["a frame"] += number(impl.FrameOk(a.Plan, a.Frame))
	seen["a frame that is none"] += number(!impl.FrameOk(a.Plan, a.Frame))
	seen["an event that is none"] += number(!impl.EventOk(a.Plan, a.Event))
	seen["too many events"] += number(len(a.Events) > impl.MaxEvents)
	seen[codeKey(a.Event.Op, impl.Do(a.Plan, a.Frame, a.Event).Code)]++
	stays := impl.Blocked(a.Plan, a.Frame, a.Of)
	seen["who stays"] += number(len(stays.Ways)+len(stays.Sections)+len(stays.Points) > 1)
}

func TestP11NothingIsWrittenIntoAnArgument(t *testing.T) {
	r := rand.New(rand.NewPCG(24, 2026))
	seen := counted{}
	calls := everyCall()
	for range 4000 {
		drawn := drawnAsked(r)
		a, kept := roomy(drawn), roomy(drawn)
		countAsked(seen, drawn) // behind the copies: it asks the program too
		for _, name := range slices.Sorted(maps.Keys(calls)) {
			answer := calls[name](a)
			if !sameWhole(a, kept) {
				t.Fatalf("%s writes into %+v", name, drawn)
			}
			wantApart(t, name, a, answer)
			if scribble(reflect.ValueOf(answer)); !sameWhole(a, kept) {
				t.Fatalf("%s answers what is in %+v", name, drawn)
			}
		}
		if t.Failed() {
			return
		}
	}
	seen.wantSome(t, 50, "a plan that is not right", "a frame", "a frame that is none", "an event that is none", "who stays")
	seen.wantSome(t, 5, "too many events", "ask 0", "ask 1", "ask 2", "ask 3", "ask 4", "ask 5", "ask 6", "back 0", "back 2", "occ 0", "free 0", "lies 0", "move 0", "move 2", "move 3", "tick 0")
}

// Other calls stand in between, the first answers are written over, and the argument lies elsewhere: the answer is the same.
func TestP11TheSameArgumentHasTheSameAnswer(t *testing.T) {
	r := rand.New(rand.NewPCG(25, 2026))
	for range 1500 {
		a, other := drawnAsked(r), drawnAsked(r)
		first := answersOf(r, a)
		kept := map[string]any{}
		for name, answer := range first {
			kept[name] = tight(answer)
		}
		answersOf(r, other)
		second := answersOf(r, a)
		for name, want := range kept {
			if !same(first[name], want) {
				t.Fatalf("%s: a later call writes into its answer: %+v", name, a)
			}
			if !same(second[name], want) {
				t.Fatalf("%s answers %v, then %v: %+v", name, want, second[name], a)
			}
			wantApart(t, name, first[name], second[name])
			scribble(reflect.ValueOf(first[name]))
			scribble(reflect.ValueOf(second[name]))
		}
		for _, copied := range []asked{a, roomy(a), tight(a)} {
			for name, answer := range answersOf(r, copied) {
				if !same(answer, kept[name]) {
					t.Fatalf("%s answers %v, then %v: %+v", name, kept[name], answer, a)
				}
			}
		}
		if t.Failed() {
			return
		}
	}
}

// An answer hangs on the plan that is asked with now, not on one that was asked with before in the same memory.
func TestP11TheSameMemoryWithOtherThingsInIt(t *testing.T) {
	r := rand.New(rand.NewPCG(26, 2026))
	for range 1000 {
		a := roomy(drawnAsked(r))
		answersOf(r, a)
		if len(a.Plan.Ways) > 0 && len(a.Frame.Occ) > 0 && len(a.Frame.Ways) > 0 {
			disturb(r, &a.Plan)
			disturbFrame(r, a.Plan, &a.Frame)
		}
		a.Events[r.IntN(len(a.Events))] = a.Event
		elsewhere := answersOf(r, tight(a))
		for name, answer := range answersOf(r, a) {
			if !same(answer, elsewhere[name]) {
				t.Fatalf("%s answers %v, elsewhere %v: %+v", name, answer, elsewhere[name], a)
			}
		}
	}
}

// Lists of an argument may lie in one memory; those of the answer do not.
func TestP11ListsOfAnArgumentThatShareMemory(t *testing.T) {
	r := rand.New(rand.NewPCG(27, 2026))
	row, been, on := []bool{true, true, true}, []bool{false, false}, []int{1, 0}
	w := impl.Way{Sections: on, Near: on}
	a := asked{
		Plan:   impl.Plan{Sections: 2, Switches: on, Ways: []impl.Way{w, w, w}, Bars: [][]bool{row, row, row}, Hold: 1},
		Frame:  impl.Frame{Ok: true, Occ: been, Points: []impl.Point{{Want: 1, Lies: 1}, {Want: 2, Lies: 2}}, Ways: []impl.Held{{Been: been}, {Been: been}, {Been: been}}},
		Events: []impl.Event{ask(1), occ(1), occ(0), free(1), free(0), {}},
	}
	for _, e := range []impl.Event{ask(0), ask(2), back(1), occ(0), occ(1), free(1), lies(1, 0), move(0, 2), tick(), {}} {
		a.Event = e
		kept := tight(a)
		apart := answersOf(r, roomy(a))
		for name, answer := range answersOf(r, a) {
			if !same(answer, apart[name]) || !same(a, kept) {
				t.Errorf("%s, %v: %v, want %v", name, e, answer, apart[name])
			}
			wantApart(t, name, answer)
		}
	}
	if got := impl.Shown(a.Plan, a.Frame); got != ".. <> ---" {
		t.Errorf("%q", got)
	}
}
