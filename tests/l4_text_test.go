package tests

import (
	"slices"
	"strconv"
	"strings"
	"testing"

	"loop.example/tappet/impl"
)

func wantShown(t *testing.T, what string, p impl.Plan, f impl.Frame, want string) {
	t.Helper()
	if got := impl.Shown(p, f); got != want {
		t.Errorf("%s, %s: got %q, want %q", what, picture(f), got, want)
	}
}

func TestShown(t *testing.T) {
	p := station()
	for _, c := range []struct{ what, text, want string }{
		{"the beginning", "..... 1/1 1/1 - - - -", "..... << ----"},
		{"somebody everywhere", "##### 2/2 2/2 - - - -", "##### >> ----"},
		{"somebody in the first", "#.... 1/1 2/2 - - - -", "#.... <> ----"},
		{"somebody in the last", "....# 2/2 1/1 - - - -", "....# >< ----"},
		{"set, a switch lies otherwise", "..... 1/1 2/1 s - - -", "===.. <!?! s---"},
		{"set, a switch is not known", "..... 1/1 2/0 s* - - -", "===.. <!?! s---"},
		{"set, somebody in the second", ".#... 1/1 2/2 s - - -", "=#=.. <!>! s---"},
		{"set, somebody behind its end", "...#. 1/1 2/2 s* - - -", "===#. <!>! s---"},
		{"set, all switches against it", "..... 2/2 1/1 s* - - -", "===.. >!<! s---"},
		{"clear", "..... 1/1 2/2 C* - - -", "===.. <!>! C---"},
		{"clear, somebody near", "....# 1/1 2/2 C* - - -", "===.# <!>! C---"},
		{"taken back", "..... 1/1 2/2 t*@1 - - -", "===.. <!>! t---"},
		{"taken back, somebody nearly everywhere", ".#### 2/0 1/0 t*@3 - - -", "=#### ?!?! t---"},
		{"used, in the first", "#.... 1/1 2/2 u*0:100 - - -", "#==.. <!>! u---"},
		{"used, in none", "..... 1/1 2/2 u0:100 - - -", "===.. <!>! u---"},
		{"used, in two", "##... 1/1 2/2 u*0:110 - - -", "##=.. <!>! u---"},
		{"let go of the first", ".#... 1/1 2/2 u*1:110 - - -", ".#=.. <!>! u---"},
		{"let go of the first, in none", "..... 1/1 2/2 u*1:110 - - -", ".==.. <!>! u---"},
		{"let go of the first, somebody in it", "#.... 1/1 2/2 u*1:110 - - -", "#==.. <!>! u---"},
		{"let go of two, and of the switch", "..#.. 1/1 2/2 u*2:111 - - -", "..#.. <>! u---"},
		{"let go of two, in none", "..... 1/1 2/2 u*2:110 - - -", "..=.. <>! u---"},
		{"let go of two, somebody in all", "###.. 1/1 2/2 u*2:111 - - -", "###.. <>! u---"},
		{"let go of two, the switch wanted otherwise", "..... 2/1 2/2 u*2:110 - - -", "..=.. ?>! u---"},
		{"the second way", "..... 2/2 1/1 - C* - -", "==... >!< -C--"},
		{"the third way, backwards", "..... 1/1 1/1 - - C* -", "...== <<! --C-"},
		{"the third way, let go of the first", "...#. 1/1 1/1 - - u*1:11 -", "...#. <<! --u-"},
		{"the fourth way", "..... 1/1 1/1 - - - C*", "....= <!<! ---C"},
		{"two ways want one switch", "..... 2/2 1/1 - C* - s", "==..= >!<! -C-s"},
		{"two ways hold all", "..... 1/1 2/2 C* - s -", "===== <!>! C-s-"},
		{"two ways are used", "#...# 1/1 2/2 u*0:100 - u0:10 -", "#===# <!>! u-u-"},
		{"one is taken back, one is set", "..... 1/1 2/2 t*@7 - - s", "===.= <!>! t--s"},
	} {
		if f := frameOf(p, c.text); picture(f) != c.text || !impl.FrameOk(p, f) {
			t.Errorf("%s: %s is no frame", c.what, c.text)
		}
		wantShown(t, c.what, p, frameOf(p, c.text), c.want)
	}
}

// One switch, however it stands, with nobody who wants it, a way that has it beside it, and one that has it on it and lets go of it.
func TestShownSwitches(t *testing.T) {
	p := impl.Plan{
		Sections: 3,
		Switches: []int{0},
		Ways: []impl.Way{
			{Sections: []int{0, 1}, Lies: []impl.Lie{{Switch: 0, Lie: 2}}},
			{Sections: []int{2}, Flanks: []impl.Lie{{Switch: 0, Lie: 1}}},
		},
		Bars: squareOf(2, false),
		Hold: 1,
	}
	for _, c := range []struct {
		want, lies int
		sign       string
	}{
		{1, 1, "<"}, {1, 2, "?"}, {1, 0, "?"},
		{2, 1, "?"}, {2, 2, ">"}, {2, 0, "?"},
	} {
		stands := strconv.Itoa(c.want) + "/" + strconv.Itoa(c.lies)
		wantShown(t, "not wanted", p, frameOf(p, "... "+stands+" - -"), "... "+c.sign+" --")
		wantShown(t, "not wanted, somebody there", p, frameOf(p, "#.. "+stands+" - -"), "#.. "+c.sign+" --")
		wantShown(t, "beside a way", p, frameOf(p, "..# "+stands+" - u0:1"), "..# "+c.sign+"! -u")
		wantShown(t, "on a way", p, frameOf(p, "#.. "+stands+" u0:10 -"), "#=. "+c.sign+"! u-")
		wantShown(t, "on a way that let go of it", p, frameOf(p, ".#. "+stands+" u1:11 -"), ".#. "+c.sign+" u-")
		wantShown(t, "on the one, beside the other", p, frameOf(p, "#.# "+stands+" u0:10 u0:1"), "#=# "+c.sign+"! uu")
		wantShown(t, "let go of by the one, beside the other", p, frameOf(p, ".## "+stands+" u1:11 u0:1"), ".## "+c.sign+"! uu")
	}
}

// The same by events: a switch that is turned is unsure until it is known to lie as it is wanted.
func TestShownWhileASwitchTurns(t *testing.T) {
	p := station()
	for _, c := range []struct {
		events []impl.Event
		want   string
	}{
		{[]impl.Event{}, "..... << ----"},
		{[]impl.Event{move(0, 2)}, "..... ?< ----"},
		{[]impl.Event{move(0, 2), lies(0, 0)}, "..... ?< ----"},
		{[]impl.Event{move(0, 2), lies(0, 0), lies(0, 2)}, "..... >< ----"},
		{[]impl.Event{lies(0, 2)}, "..... ?< ----"},
		{[]impl.Event{lies(0, 2), move(0, 2)}, "..... >< ----"},
		{[]impl.Event{ask(1)}, "==... ?!< -s--"},
		{[]impl.Event{ask(1), lies(0, 0)}, "==... ?!< -s--"},
		{[]impl.Event{ask(1), lies(0, 2)}, "==... >!< -C--"},
		{[]impl.Event{ask(1), lies(0, 2), lies(0, 1)}, "==... ?!< -s--"},
		{[]impl.Event{ask(1), lies(0, 2), back(1)}, "..... >< ----"},
	} {
		wantShown(t, "by events", p, frameAt(t, p, c.events...), c.want)
	}
}

// The five states of one way, and some of them beside each other.
func TestShownWays(t *testing.T) {
	p := impl.Plan{Sections: 6, Hold: 1, Bars: squareOf(5, false)}
	for i := range 5 {
		p.Ways = append(p.Ways, impl.Way{Sections: []int{i}, Over: []int{5}})
	}
	for _, c := range []struct{ text, want string }{
		{"...... - - - - -", "......  -----"},
		{".....# s - - - -", "=....#  s----"},
		{".....# s* - - - -", "=....#  s----"},
		{"...... C* - - - -", "=.....  C----"},
		{"...... t*@1 - - - -", "=.....  t----"},
		{"...... u0:0 - - - -", "=.....  u----"},
		{"#..... u*0:1 - - - -", "#.....  u----"},
		{"#....# u0:1 t*@1 s* s -", "#===.#  utss-"},
		{"....#. - C* C* t*@1 u*0:1", ".===#.  -CCtu"},
	} {
		wantShown(t, "ways", p, frameOf(p, c.text), c.want)
	}
}

// Where there is nothing to tell of, the blanks stand yet.
func TestShownWithoutSwitchesOrWays(t *testing.T) {
	wantShown(t, "no switches", twins(), frameOf(twins(), "... - -"), "...  --")
	wantShown(t, "no switches, held", twins(), frameOf(twins(), "..# C* t*@2"), "==#  Ct")
	noWays := impl.Plan{Sections: 2, Switches: []int{1, 0, 1}, Hold: 1}
	wantShown(t, "no ways", noWays, frameOf(noWays, ".# 1/1 2/1 2/2"), ".# <?> ")
	least := impl.Plan{Sections: 1, Hold: 1}
	wantShown(t, "neither", least, impl.Begin(least), ".  ")
	wantShown(t, "neither, somebody there", least, frameOf(least, "#"), "#  ")
}

func TestShownNone(t *testing.T) {
	p := station()
	for _, text := range rightFrames() {
		for what, spoil := range spoilFrame() {
			f := frameOf(p, text)
			spoil(&f)
			wantShown(t, what, p, f, "")
		}
		for _, wrong := range wrongPlans() {
			wantShown(t, "a plan that is not right", wrong, frameOf(p, text), "")
		}
	}
	for _, text := range []string{
		"#.... 1/1 2/1 s - - -", "..... 1/1 2/2 s - - -", "..... 1/1 2/1 C* - - -", "..... 1/1 2/2 u*0:110 - - -",
		"..... 1/1 1/1 - - C* C*", "..... 1/1 1/1 -* - - -", "..... 1/1 2/2 t*@8 - - -", "..... 1/1 2/2 C - - -",
	} {
		wantShown(t, "not settled, or none", p, frameOf(p, text), "")
	}
	wantShown(t, "another plan's", p, impl.Begin(twins()), "")
	wantShown(t, "nothing", p, impl.Frame{}, "")
	wantShown(t, "nothing of nothing", impl.Plan{}, impl.Frame{}, "")
	wantShown(t, "nothing but Ok", impl.Plan{}, impl.Frame{Ok: true}, "")
}

// The greatest plan: sixty sections, forty switches, a hundred ways, each told at its place.
func TestShownGreatest(t *testing.T) {
	p := impl.Plan{Sections: 60, Hold: 300, Switches: span(0, 40), Bars: squareOf(100, false)}
	for i := range 100 {
		p.Ways = append(p.Ways, impl.Way{Sections: []int{i % 60}, Flanks: []impl.Lie{{Switch: i % 40, Lie: 2}}})
		for k := range 100 {
			p.Bars[i][k] = i%60 == k%60
		}
	}
	wantShown(t, "the beginning", p, impl.Begin(p), strings.Repeat(".", 60)+" "+strings.Repeat("<", 40)+" "+strings.Repeat("-", 100))
	wantShown(t, "the last way", p, frameAt(t, p, ask(99), occ(59)), strings.Repeat(".", 39)+"="+strings.Repeat(".", 19)+"# "+
		strings.Repeat("<", 19)+"?!"+strings.Repeat("<", 20)+" "+strings.Repeat("-", 99)+"s")
	f := frameAt(t, p, ask(59), lies(19, 2), ask(0), occ(0), lies(39, 0), ask(98), lies(18, 2))
	wantShown(t, "ways here and there", p, f, "#"+strings.Repeat(".", 37)+"="+strings.Repeat(".", 20)+"= "+
		"?!"+strings.Repeat("<", 17)+">!>!"+strings.Repeat("<", 19)+"? "+
		"u"+strings.Repeat("-", 58)+"C"+strings.Repeat("-", 38)+"C-")
}

type line struct {
	e    impl.Event
	want string
}

// testAnswer asks for all lines at once, and for each beginning of them.
func testAnswer(t *testing.T, what string, p impl.Plan, lines []line) {
	t.Helper()
	var events []impl.Event
	var want string
	for _, l := range lines {
		if got := impl.Answer(p, events); got != want {
			t.Errorf("%s, %d events: got %q, want %q", what, len(events), got, want)
		}
		events, want = append(events, l.e), want+l.want+"\n"
	}
	if got := impl.Answer(p, events); got != want {
		t.Errorf("%s: got %q, want %q", what, got, want)
	}
}

// Every Code of every event by its number.
func TestAnswerCodes(t *testing.T) {
	testAnswer(t, "ask 0 to 5", station(), []line{
		{ask(4), "1 ..... << ----"},
		{ask(0), "0 ===.. <!?! s---"},
		{ask(0), "2 ===.. <!?! s---"},
		{ask(1), "3 ===.. <!?! s---"},
		{ask(3), "5 ===.. <!?! s---"},
		{back(0), "0 ..... <? ----"},
		{occ(4), "0 ....# <? ----"},
		{ask(3), "4 ....# <? ----"},
	})
	testAnswer(t, "ask 6, move 0 to 3", station(), []line{
		{move(0, 2), "0 ..... ?< ----"},
		{lies(0, 2), "0 ..... >< ----"},
		{occ(1), "0 .#... >< ----"},
		{ask(3), "6 .#... >< ----"},
		{move(0, 1), "3 .#... >< ----"},
		{move(0, 0), "1 .#... >< ----"},
		{free(1), "0 ..... >< ----"},
		{ask(3), "0 ....= ?!<! ---s"},
		{move(0, 1), "2 ....= ?!<! ---s"},
		{lies(0, 1), "0 ....= <!<! ---C"},
		{lies(0, 3), "1 ....= <!<! ---C"},
	})
	testAnswer(t, "back 0 to 2, tick", twins(), []line{
		{back(0), "2 ...  --"},
		{ask(0), "0 =..  C-"},
		{occ(2), "0 =.#  C-"},
		{back(0), "0 =.#  t-"},
		{back(2), "1 =.#  t-"},
		{back(0), "2 =.#  t-"},
		{tick(), "0 =.#  t-"},
		{tick(), "0 ..#  --"},
		{tick(), "0 ..#  --"},
	})
}

func TestAnswerTrainPasses(t *testing.T) {
	testAnswer(t, "a way of three sections", station(), []line{
		{ask(0), "0 ===.. <!?! s---"},
		{lies(1, 2), "0 ===.. <!>! C---"},
		{occ(0), "0 #==.. <!>! u---"},
		{occ(1), "0 ##=.. <!>! u---"},
		{free(0), "0 .#=.. <!>! u---"},
		{occ(2), "0 .##.. <!>! u---"},
		{free(1), "0 ..#.. <>! u---"},
		{move(0, 2), "0 ..#.. ?>! u---"},
		{occ(0), "0 #.#.. ?>! u---"},
		{occ(3), "0 #.##. ?>! u---"},
		{free(2), "0 #..#. ?> ----"},
		{impl.Event{}, "1 #..#. ?> ----"},
	})
}

// An event that is none has its line too, with the frame as it is.
func TestAnswerNone(t *testing.T) {
	p := station()
	for _, e := range noEvents() {
		testAnswer(t, "an event that is none", p, []line{
			{e, "1 ..... << ----"},
			{e, "1 ..... << ----"},
			{ask(2), "0 ...== <<! --C-"},
			{e, "1 ...== <<! --C-"},
		})
	}
	for _, wrong := range wrongPlans() {
		for _, events := range [][]impl.Event{nil, {tick()}, {{}, ask(0), occ(0)}} {
			if got := impl.Answer(wrong, events); got != "" {
				t.Errorf("fault %v: %q", impl.PlanOk(wrong), got)
			}
		}
	}
	if impl.Answer(p, nil) != "" || impl.Answer(p, []impl.Event{}) != "" {
		t.Error("no events")
	}
}

func TestAnswerSizes(t *testing.T) {
	p := station()
	for _, n := range []int{0, 1, 2, 999, 1000, 1001, 1002, 5000} {
		for e, want := range map[impl.Event]string{
			tick(): "0 ..... << ----\n",
			occ(4): "0 ....# << ----\n",
			{}:     "1 ..... << ----\n",
		} {
			want = strings.Repeat(want, n*number(n <= 1000))
			if got := impl.Answer(p, slices.Repeat([]impl.Event{e}, n)); got != want {
				t.Errorf("%d times %v: %d bytes, want %d", n, e, len(got), len(want))
			}
		}
	}
	events := append(slices.Repeat([]impl.Event{tick()}, 999), ask(3))
	if got := impl.Answer(p, events); !strings.HasSuffix(got, "\n0 ....= <!<! ---C\n") || strings.Count(got, "\n") != 1000 {
		t.Error("the last of as many as there may be")
	}
	if got := impl.Answer(p, append(events, tick())); got != "" {
		t.Error("one more")
	}
}
