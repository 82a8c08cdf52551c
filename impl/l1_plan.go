package impl

import (
	"errors"
	"strconv"
)

const (
	MaxSections = 60
	MaxSwitches = 40
	MaxWays     = 100
	MaxOf       = 30
	MaxHold     = 300
)

// Lie is how a switch lies, or has to.
type Lie struct {
	Switch int
	Lie    int
}

// Way is a way from signal to signal: its sections in order, how switches on it and beside it have to lie, the sections behind its end, and those ahead of its signal.
type Way struct {
	Sections []int
	Lies     []Lie
	Flanks   []Lie
	Over     []int
	Near     []int
}

// Plan is what a frame is made for: sections, switches and the sections in which they are, ways, which of them exclude each other, and how many ticks a way is held that is taken back.
type Plan struct {
	Sections int
	Switches []int
	Ways     []Way
	Bars     [][]bool
	Hold     int
}

// Fault is what is wrong with a plan, and where.
type Fault struct {
	Code int
	At   int
}

// PlanOk is the zero value for a plan that is right, else its first fault: by its code, then by its place.
func PlanOk(p Plan) Fault {
	var found faultError
	if errors.As(checkPlan(p), &found) {
		return Fault(found)
	}
	return Fault{}
}

// The codes of faults, in the order in which they are looked for.
const (
	faultSizes    = 1
	faultSwitches = 2
	faultWays     = 3
	faultRows     = 4
	faultBars     = 5
)

// faultError is a fault as an error that carries its place.
type faultError Fault

func (e faultError) Error() string {
	return "plan: fault " + strconv.Itoa(e.Code) + " at " + strconv.Itoa(e.At)
}

// checkPlan asks in the order of the codes: each check leans on what those before it have found right.
func checkPlan(p Plan) error {
	for _, check := range []func(Plan) error{checkSizes, checkSwitches, checkWays, checkRows, checkBars} {
		if err := check(p); err != nil {
			return err
		}
	}
	return nil
}

func checkSizes(p Plan) error {
	if p.Sections < 1 || p.Sections > MaxSections || p.Hold < 1 || p.Hold > MaxHold ||
		len(p.Switches) > MaxSwitches || len(p.Ways) > MaxWays {
		return faultError{Code: faultSizes}
	}
	return nil
}

func checkSwitches(p Plan) error {
	for k, section := range p.Switches {
		if !isSection(p, section) {
			return faultError{Code: faultSwitches, At: k}
		}
	}
	return nil
}

func checkWays(p Plan) error {
	for i, w := range p.Ways {
		if !wayOk(p, w) {
			return faultError{Code: faultWays, At: i}
		}
	}
	return nil
}

func checkRows(p Plan) error {
	if len(p.Bars) != len(p.Ways) {
		return faultError{Code: faultRows}
	}
	for i, row := range p.Bars {
		if len(row) != len(p.Ways) {
			return faultError{Code: faultRows, At: i}
		}
	}
	return nil
}

// checkBars looks only at the ways behind way i: a fault of two ways is one of both, so its place is the lower of them. A way and itself are not two ways; what Bars says of them is free.
func checkBars(p Plan) error {
	on := waySets(p)
	for i := range p.Ways {
		for k := i + 1; k < len(p.Ways); k++ {
			if p.Bars[i][k] != p.Bars[k][i] || !p.Bars[i][k] && on[i].meets(on[k]) {
				return faultError{Code: faultBars, At: i}
			}
		}
	}
	return nil
}

// waySets is, for each way, the set of its Sections.
func waySets(p Plan) []sectionSet {
	sets := make([]sectionSet, 0, len(p.Ways))
	for _, w := range p.Ways {
		set, _ := setOf(p, w.Sections)
		sets = append(sets, set)
	}
	return sets
}

func isSection(p Plan, section int) bool {
	return section >= 0 && section < p.Sections
}

func isSwitch(p Plan, point int) bool {
	return point >= 0 && point < len(p.Switches)
}

func isWay(p Plan, way int) bool {
	return way >= 0 && way < len(p.Ways)
}

func wayOk(p Plan, w Way) bool {
	on, onOk := setOf(p, w.Sections)
	over, overOk := setOf(p, w.Over)
	_, nearOk := setOf(p, w.Near)
	return onOk && overOk && nearOk && len(w.Sections) > 0 && !on.meets(over) && switchesOk(p, w, on)
}

// switchesOk marks the switches of both lists in one array: on and beside a way, a switch may stand only once.
func switchesOk(p Plan, w Way, on sectionSet) bool {
	if len(w.Lies) > MaxOf || len(w.Flanks) > MaxOf {
		return false
	}
	var seen [MaxSwitches]bool
	for _, l := range w.Lies {
		if !lieOk(p, l) || seen[l.Switch] || !on.has(p.Switches[l.Switch]) {
			return false
		}
		seen[l.Switch] = true
	}
	for _, l := range w.Flanks {
		if !lieOk(p, l) || seen[l.Switch] {
			return false
		}
		seen[l.Switch] = true
	}
	return true
}

func lieOk(p Plan, l Lie) bool {
	return isSwitch(p, l.Switch) && (l.Lie == 1 || l.Lie == 2)
}

const wordBits = 32

// sectionSet is a set of sections, a bit for each; being an array, it is copied by assignment.
type sectionSet [(MaxSections + wordBits - 1) / wordBits]uint32

// setOf is the set of the sections of a list, and whether the list may stand in a way: not too long, each section there is, none twice.
func setOf(p Plan, list []int) (sectionSet, bool) {
	if len(list) > MaxOf {
		return sectionSet{}, false
	}
	var set sectionSet
	for _, section := range list {
		if !isSection(p, section) || set.has(section) {
			return sectionSet{}, false
		}
		set = set.with(section)
	}
	return set, true
}

func (s sectionSet) has(section int) bool {
	return s[section/wordBits]>>(section%wordBits)&1 == 1
}

func (s sectionSet) with(section int) sectionSet {
	s[section/wordBits] |= 1 << (section % wordBits)
	return s
}

func (s sectionSet) meets(other sectionSet) bool {
	for i, word := range s {
		if word&other[i] != 0 {
			return true
		}
	}
	return false
}
