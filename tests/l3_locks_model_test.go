package tests

import (
	"math/rand/v2"
	"reflect"
	"slices"
	"testing"

	"loop.example/tappet/impl"
)

// The document's chapter 3 once more, as slowly as the words go; PointLock and WhyNot, on which chapter 2 leans, are beside that.

func modelLockedBy(p impl.Plan, f impl.Frame, section int) int {
	if modelFrameOk(p, f) {
		for i := range p.Ways {
			if slices.Contains(holdsYet(p, f, i), section) {
				return i
			}
		}
	}
	return -1
}

func modelBlocked(p impl.Plan, f impl.Frame, way int) impl.Stays {
	var s impl.Stays
	if !modelFrameOk(p, f) || way < 0 || way >= len(p.Ways) {
		return s
	}
	for i := range p.Ways {
		if i != way && f.Ways[i].State != impl.WIdle && modelApart(p, i, way) {
			s.Ways = append(s.Ways, i)
		}
	}
	w := p.Ways[way]
	for section, somebody := range f.Occ {
		if somebody && slices.Contains(slices.Concat(w.Sections, w.Over), section) {
			s.Sections = append(s.Sections, section)
		}
	}
	for k, section := range p.Switches {
		at := slices.IndexFunc(needs(w), func(l impl.Lie) bool { return l.Switch == k })
		if at < 0 || needs(w)[at].Lie == f.Points[k].Want {
			continue
		}
		for i := range p.Ways {
			if f.Occ[section] || i != way && modelWants(p, f, i, k) {
				s.Points = append(s.Points, k)
				break
			}
		}
	}
	return s
}

// modelApart says whether two ways cannot be held at one time.
func modelApart(p impl.Plan, i, k int) bool {
	for _, section := range p.Ways[i].Sections {
		if slices.Contains(p.Ways[k].Over, section) {
			return true
		}
	}
	for _, section := range p.Ways[i].Over {
		if slices.Contains(p.Ways[k].Sections, section) {
			return true
		}
	}
	return p.Bars[i][k]
}

func sameStays(a, b impl.Stays) bool {
	return slices.Equal(a.Ways, b.Ways) && slices.Equal(a.Sections, b.Sections) && slices.Equal(a.Points, b.Points)
}

// testLocks holds all answers about one frame, which may be none, against the model's.
func testLocks(t *testing.T, p impl.Plan, f impl.Frame) {
	t.Helper()
	for way := -1; way <= len(p.Ways); way++ {
		isOne := modelFrameOk(p, f) && way >= 0 && way < len(p.Ways)
		if got, want := impl.Proved(p, f, way), isOne && modelProved(p, f, way); got != want {
			t.Fatalf("Proved of %d: got %v, want %v in %s of %+v", way, got, want, picture(f), p)
		}
		if got, want := impl.WhyNot(p, f, way), modelWhyNot(p, f, way); got != want {
			t.Fatalf("WhyNot of %d: got %d, want %d in %s of %+v", way, got, want, picture(f), p)
		}
		if got, want := impl.Blocked(p, f, way), modelBlocked(p, f, way); !sameStays(got, want) {
			t.Fatalf("Blocked of %d: got %v, want %v in %s of %+v", way, got, want, picture(f), p)
		}
	}
	for section := -1; section <= p.Sections; section++ {
		if got, want := impl.LockedBy(p, f, section), modelLockedBy(p, f, section); got != want {
			t.Fatalf("LockedBy of %d: got %d, want %d in %s of %+v", section, got, want, picture(f), p)
		}
	}
	for point := -1; point <= len(p.Switches); point++ {
		if got, want := impl.PointLock(p, f, point), modelPointLock(p, f, point); !slices.Equal(got, want) {
			t.Fatalf("PointLock of %d: got %v, want %v in %s of %+v", point, got, want, picture(f), p)
		}
	}
}

func TestLocksAsTheModel(t *testing.T) {
	r := rand.New(rand.NewPCG(4, 2026))
	seen := counted{}
	for range 150 {
		p, _, all := drawnRun(r, 60)
		for _, done := range all {
			f := done.Frame
			testLocks(t, p, f)
			for i := range f.Ways {
				s := impl.Blocked(p, f, i)
				seen["ways"] += number(len(s.Ways) > 1)
				seen["sections"] += number(len(s.Sections) > 1)
				seen["switches"] += number(len(s.Points) > 1)
				seen["proved"] += number(impl.Proved(p, f, i))
			}
			for k := range p.Switches {
				seen["several want one"] += number(len(impl.PointLock(p, f, k)) > 1)
			}
		}
	}
	seen.wantSome(t, 20, "ways", "sections", "switches", "proved", "several want one")
}

// A frame is one whoever stands where and however switches are wanted: more of them than a run gets to.
func TestLocksOfAnyFrame(t *testing.T) {
	r := rand.New(rand.NewPCG(5, 2026))
	seen := counted{}
	for range 4000 {
		p := drawnYard(r)
		f := drawnFrame(r, p)
		testLocks(t, p, f)
		for i, h := range f.Ways {
			s := impl.Blocked(p, f, i)
			held := h.State != impl.WIdle && impl.FrameOk(p, f)
			seen["a held way, others"] += number(held && len(s.Ways) > 0)
			seen["a held way, switches"] += number(held && len(s.Points) > 0)
			seen["a held way, itself"] += number(held && wantsOtherwise(p, f, i) && len(s.Points) == 0)
		}
	}
	seen.wantSome(t, 50, "a held way, others", "a held way, switches", "a held way, itself")
}

// wantsOtherwise says whether a way wants a switch that is wanted to lie otherwise than it needs.
func wantsOtherwise(p impl.Plan, f impl.Frame, way int) bool {
	return slices.ContainsFunc(needs(p.Ways[way]), func(l impl.Lie) bool {
		return modelWants(p, f, way, l.Switch) && f.Points[l.Switch].Want != l.Lie
	})
}

// drawnFrame holds some ways and lets the rest lie as it comes; all that can settle has.
func drawnFrame(r *rand.Rand, p impl.Plan) impl.Frame {
	f := modelBegin(p)
	for section := range f.Occ {
		f.Occ[section] = r.IntN(4) == 0
	}
	for k := range f.Points {
		f.Points[k] = impl.Point{Want: 1 + r.IntN(2), Lies: r.IntN(3)}
	}
	for i := range f.Ways {
		barred := slices.ContainsFunc(span(0, i), func(k int) bool { return p.Bars[i][k] && f.Ways[k].State != impl.WIdle })
		if barred || r.IntN(3) == 0 {
			continue
		}
		h := &f.Ways[i]
		h.State, h.Shown = 1+r.IntN(4), true
		if h.State == impl.WTaking {
			h.Timer = 1 + r.IntN(p.Hold)
		}
		for at := range h.Been {
			h.Been[at] = h.State == impl.WUsed && r.IntN(3) > 0
		}
	}
	return modelSettled(p, f)
}

func TestDrawnFramesAreFrames(t *testing.T) {
	r := rand.New(rand.NewPCG(6, 2026))
	for range 2000 {
		p := drawnYard(r)
		if f := drawnFrame(r, p); !impl.FrameOk(p, f) || !reflect.DeepEqual(modelSettled(p, f), f) {
			t.Fatalf("%s of %+v", picture(f), p)
		}
	}
}
