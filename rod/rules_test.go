package rod_test

import (
	"math"
	"slices"
	"strings"
	"testing"

	"musette/api"
	"musette/rod"
)

// arguments is all that the functions of the package take.
type arguments struct {
	m             api.Machine
	h             api.Hand
	on, set       []int
	button, lever int
	events        []api.Event
	l             []api.Heard
	text          string
}

// callAll calls each function of the package with these arguments, and returns all that comes out of it, lists as they are.
func callAll(a arguments) (results []any, shared [][]int) {
	keep := func(list ...any) { results = append(results, list...) }
	number := func(n int, x api.Errno) { keep(n, x) }
	numbers := func(list []int, x api.Errno) {
		shared = append(shared, list)
		keep(len(list), x)
		for _, n := range list {
			keep(n)
		}
	}
	rows := func(list [][]int, x api.Errno) {
		keep(len(list), x)
		for _, row := range list {
			numbers(row, x)
		}
	}
	keep(rod.Check(a.m))
	numbers(rod.Turns(a.m, a.h))
	numbers(rod.Lifts(a.m, a.h))
	numbers(rod.Sounds(a.m, a.h))
	number(rod.Depth(a.m, a.on, a.button, a.lever))
	number(rod.Force(a.m, a.h))
	rows(rod.Chart(a.m, a.on))
	numbers(rod.Chord(a.m, a.on, a.set))
	rows(rod.Play(a.m, a.events))
	numbers(rod.Useless(a.m))
	faults, x := rod.Faults(a.m)
	keep(len(faults), x)
	for _, f := range faults {
		keep(f)
	}
	numbers(rod.Broken(a.m, a.set, a.h))
	numbers(rod.Suspects(a.m, a.l))
	numbers(rod.Fewest(a.m, a.l))
	numbers(rod.Blame(a.m, a.l))
	h, left, x := rod.Test(a.m, a.l)
	numbers(h.Buttons, x)
	numbers(h.On, x)
	keep(left)
	text, x := rod.Write(a.m)
	keep(text, x)
	m, line, x := rod.Read(a.text)
	again, y := rod.Write(m)
	keep(line, x, again, y)
	return results, shared
}

// wild returns a machine in which something is anything.
func wild(field, a, b int) api.Machine {
	m := machineM()
	switch field {
	case 0:
		m.Rods, m.Levers = a, b
	case 1:
		m.Registers, m.Travel, m.Open = a, b, a
	case 2:
		m.Levers, m.Weights = a, nil
	case 3:
		m.Buttons = []int{a, b}
	case 4:
		m.Buttons, m.Weights = slices.Repeat([]int{a}, 1000), slices.Repeat([]int{b}, 1000)
	case 5:
		m.Pins = []api.Pin{{Rod: a, Lever: b, Lag: a}}
	case 6:
		m.Pins = slices.Repeat([]api.Pin{{Rod: a, Lever: b, Lag: a}}, 1000)
	case 7:
		m.Links = []api.Link{{From: a, To: b, Register: a, Lag: b}}
	case 8:
		m.Links = slices.Repeat([]api.Link{{From: a, To: b, Register: a, Lag: b}}, 1000)
	case 9:
		m = api.Machine{Rods: a, Levers: a, Registers: a, Travel: a, Open: b}
	}
	return m
}

// P1, R5: whatever the arguments are, each function comes to an end and does not panic.
func TestAnyArguments(t *testing.T) {
	extremes := []int{math.MinInt, math.MinInt + 1, -1, 0, 1, 2, 7, 33, 64, math.MaxInt - 1, math.MaxInt}
	for _, a := range extremes {
		for _, b := range extremes {
			for field := range 11 {
				h := api.Hand{Buttons: []int{a, b}, On: []int{b}}
				for _, h := range []api.Hand{{}, press(0), h, {Buttons: slices.Repeat([]int{a}, 1000), On: []int{a, b}}} {
					callAll(arguments{m: wild(field, a, b), h: h, on: []int{a}, set: []int{a, b}, button: a, lever: b, events: []api.Event{event(1, 0), event(a, b)}, l: []api.Heard{heard(h, b)}, text: strings.Repeat("M/", field)})
					callAll(arguments{m: wild(field, a, b), h: h, set: []int{b}, button: 0, lever: b, events: []api.Event{event(1, b), event(3, a)}, l: []api.Heard{heard(press(), a, b)}, text: "M/1/1/0/1/1\nL/0/0/-\n"})
				}
			}
		}
	}
	for _, text := range []string{"\x00", "\xff\xfe\n", "M\n", "/\n", "M/////\n", "M/\xff/1/1/1/1\n", "\n\n", "E\n", strings.Repeat("/", 400), strings.Repeat("M", 400)} {
		callAll(arguments{text: text, events: make([]api.Event, 10000), l: make([]api.Heard, 10000)})
	}
}

// P1: the largest machines come to an end, too, even if links go round.
func TestLargest(t *testing.T) {
	m := largest()
	for i := range m.Links {
		m.Links[i] = api.Link{From: i, To: (i + 1) % 4, Register: -1, Lag: 1}
	}
	for _, m := range []api.Machine{m, largest()} {
		var l []api.Heard
		for range 5 {
			callAll(arguments{m: m, h: api.Hand{Buttons: []int{0, 1, 2, 3}, On: []int{0, 1}}, l: l})
			l = append(l, heard(press(len(l)%4), must[[]int](t)(rod.Broken(m, []int{8, 15}, press(len(l)%4)))...))
		}
	}
}

// spare returns a list with room behind it, and the list with this room.
func spare[T any](list []T, behind T) (part, whole []T) {
	whole = append(slices.Clone(list), behind, behind, behind)
	return whole[:len(list)], whole
}

// some returns valid arguments.
func (d *dice) some() arguments {
	m := d.machine()
	a := arguments{m: m, h: d.hand(m), on: d.set(m.Registers), set: d.set(m.Levers), button: d.roll(0, 3), lever: d.roll(0, 3)}
	for range d.roll(0, 5) {
		a.events = append(a.events, d.event(m, a.events))
	}
	a.l = d.heard(m, d.faults(m, 2), 4)
	a.text, _ = rod.Write(m)
	return a
}

// R4: arguments are not changed, nor is what lies behind them in memory.
func TestArgumentsStay(t *testing.T) {
	d := dice(22)
	for range 300 {
		a := d.some()
		var wholes, before [][]int
		watch := func(list *[]int) {
			part, whole := spare(*list, 77)
			*list = part
			wholes, before = append(wholes, whole), append(before, slices.Clone(whole))
		}
		for _, list := range []*[]int{&a.m.Buttons, &a.m.Weights, &a.h.Buttons, &a.h.On, &a.on, &a.set} {
			watch(list)
		}
		for i := range a.l {
			watch(&a.l[i].Buttons)
			watch(&a.l[i].On)
			watch(&a.l[i].Sounds)
		}
		pins, allPins := spare(a.m.Pins, api.Pin{Rod: 77})
		links, allLinks := spare(a.m.Links, api.Link{From: 77})
		events, allEvents := spare(a.events, event(77, 77))
		a.m.Pins, a.m.Links, a.events = pins, links, events
		wantPins, wantLinks, wantEvents := slices.Clone(allPins), slices.Clone(allLinks), slices.Clone(allEvents)
		callAll(a)
		if !lists(wholes, before) || !slices.Equal(allPins, wantPins) || !slices.Equal(allLinks, wantLinks) || !slices.Equal(allEvents, wantEvents) {
			t.Fatal(a, wholes, before)
		}
	}
}

// R2, R4: nothing is kept, and results share no memory with arguments or with each other.
func TestResultsAreNew(t *testing.T) {
	d := dice(23)
	for range 200 {
		a := d.some()
		want, shared := callAll(a)
		copies := make([][]int, len(shared))
		for i, list := range shared {
			copies[i] = slices.Clone(list)
		}
		for i, list := range shared { // what lies behind a list is its own, too
			for j := range list {
				list[j] = -7
			}
			for j := range list[len(list):cap(list)] {
				list[:cap(list)][len(list)+j] = -7
			}
			for k, other := range shared[i+1:] {
				if !slices.Equal(other, copies[i+1+k]) {
					t.Fatal(a, "two results share memory")
				}
			}
		}
		if again, _ := callAll(a); !slices.Equal(again, want) {
			t.Fatal(a, "a result shares memory")
		}
	}
	text, _ := rod.Write(machineM())
	one, _, _ := rod.Read(text)
	two, _, _ := rod.Read(text)
	one.Buttons[0], one.Pins[0], one.Links[0], one.Weights[0] = 9, api.Pin{}, api.Link{}, 9
	if three, _, _ := rod.Read(text); !equal(two, machineM()) || !equal(three, machineM()) {
		t.Error(two, three)
	}
	faults, _ := rod.Faults(machineM())
	faults[0] = api.Fault{}
	if again, _ := rod.Faults(machineM()); again[0] != (api.Fault{Kind: api.FaultShut}) {
		t.Error(again)
	}
}

// R2, R6: the same call has the same result, whatever was called before.
func TestSameResults(t *testing.T) {
	d := dice(24)
	var all []arguments
	var before [][]any
	for range 200 {
		a := d.some()
		results, _ := callAll(a)
		all, before = append(all, a), append(before, results)
	}
	for i, a := range slices.Backward(all) {
		if again, _ := callAll(a); !slices.Equal(again, before[i]) {
			t.Fatal(a, again, before[i])
		}
	}
}
