package tests

import (
	"math/rand/v2"
	"strconv"
	"strings"
	"testing"

	"loop.example/tappet/impl"
)

// The document's chapter 4 once more, as slowly as the words go.

func modelShown(p impl.Plan, f impl.Frame) string {
	if !modelFrameOk(p, f) {
		return ""
	}
	var text string
	for section := range p.Sections {
		switch {
		case f.Occ[section]:
			text += "#"
		case modelLockedBy(p, f, section) >= 0:
			text += "="
		default:
			text += "."
		}
	}
	text += " "
	for k, point := range f.Points {
		switch {
		case point.Lies == 0 || point.Lies != point.Want:
			text += "?"
		case point.Lies == 1:
			text += "<"
		case point.Lies == 2:
			text += ">"
		}
		if len(modelPointLock(p, f, k)) > 0 {
			text += "!"
		}
	}
	text += " "
	for _, h := range f.Ways {
		text += map[int]string{impl.WIdle: "-", impl.WSet: "s", impl.WClear: "C", impl.WTaking: "t", impl.WUsed: "u"}[h.State]
	}
	return text
}

func modelAnswer(p impl.Plan, all []impl.Done) string {
	var text string
	for _, done := range all {
		text += strconv.Itoa(done.Code) + " " + modelShown(p, done.Frame) + "\n"
	}
	return text
}

func testShown(t *testing.T, p impl.Plan, f impl.Frame) {
	t.Helper()
	if got, want := impl.Shown(p, f), modelShown(p, f); got != want {
		t.Fatalf("got %q, want %q: %s of %+v", got, want, picture(f), p)
	}
}

// countSigns counts, of a frame that is one, how often each sign stands, and each with ! behind it.
func countSigns(seen counted, shown string) {
	for i, sign := range shown {
		seen[string(sign)]++
		if sign == '!' {
			seen[shown[i-1:i+1]]++
		}
	}
	if shown == "" {
		seen["none"]++
	}
}

func TestAnswerAsTheModel(t *testing.T) {
	r := rand.New(rand.NewPCG(20, 2026))
	seen := counted{}
	for range 300 {
		p, events, all := drawnRun(r, 60)
		if got, want := impl.Answer(p, events), modelAnswer(p, all); got != want {
			t.Fatalf("got %q, want %q: %v of %+v", got, want, events, p)
		}
		for i, done := range all {
			testShown(t, p, done.Frame)
			countSigns(seen, impl.Shown(p, done.Frame))
			seen[codeKey(events[i].Op, done.Code)]++
		}
	}
	seen.wantSome(t, 100, "#", "=", ".", "<", ">", "?", "<!", ">!", "?!", "-", "s", "C", "t", "u")
	seen.wantSome(t, 20, "ask 0", "ask 1", "ask 2", "ask 3", "ask 4", "ask 5", "ask 6", "back 0", "back 2", "move 0", "move 2", "move 3", "none 1")
}

// Frames that no run gets to, and such as are none.
func TestShownAsTheModel(t *testing.T) {
	r := rand.New(rand.NewPCG(21, 2026))
	seen := counted{}
	for range 5000 {
		p := drawnYard(r)
		f := drawnFrame(r, p)
		testShown(t, p, f)
		countSigns(seen, impl.Shown(p, f))
		disturbFrame(r, p, &f)
		testShown(t, p, f)
		countSigns(seen, impl.Shown(p, f))
		disturb(r, &p)
		testShown(t, p, f)
	}
	seen.wantSome(t, 500, "#", "=", ".", "<", ">", "?", "<!", ">!", "?!", "-", "s", "C", "t", "u", "none")
}

// Line by line the text is that of Run's frames, over runs as long as there may be.
func TestAnswerIsThatOfRun(t *testing.T) {
	r := rand.New(rand.NewPCG(22, 2026))
	for range 25 {
		p, events, _ := drawnRun(r, impl.MaxEvents)
		lines := strings.SplitAfter(impl.Answer(p, events), "\n")
		run := impl.Run(p, events)
		if len(run) != len(events) || len(lines) != len(events)+1 || lines[len(events)] != "" {
			t.Fatalf("%d lines of %d events", len(lines)-1, len(events))
		}
		for i, done := range run {
			if want := strconv.Itoa(done.Code) + " " + impl.Shown(p, done.Frame) + "\n"; lines[i] != want || want == "1 \n" {
				t.Fatalf("line %d: got %q, want %q: %+v", i, lines[i], want, p)
			}
		}
		if got := impl.Answer(p, append(events, tick())); got != "" {
			t.Fatalf("one event too many: %q", got)
		}
	}
}

// What the text says of a frame is what the functions of chapter 3 say of it.
func TestShownAsTheLocks(t *testing.T) {
	overSoManyRuns(t, 23, 300, func(s stepTold) {
		var text strings.Builder
		for section, somebody := range s.after.Occ {
			text.WriteByte(".=##"[2*number(somebody)+number(impl.LockedBy(s.p, s.after, section) >= 0)])
		}
		text.WriteByte(' ')
		for k, point := range s.after.Points {
			text.WriteByte("?<>"[point.Lies*number(point.Lies == point.Want)])
			text.WriteString("!"[:number(len(impl.PointLock(s.p, s.after, k)) > 0)])
		}
		text.WriteByte(' ')
		for i, h := range s.after.Ways {
			sign := "-sCtu"[h.State]
			text.WriteByte(sign)
			if (sign == '-') != (impl.WhyNot(s.p, s.after, i) != 2) || sign == 'C' && !impl.Proved(s.p, s.after, i) {
				t.Errorf("way %d is shown as %c in %s", i, sign, picture(s.after))
			}
		}
		if got := impl.Shown(s.p, s.after); got != text.String() {
			t.Errorf("got %q, want %q: %s", got, text.String(), picture(s.after))
		}
	})
}
