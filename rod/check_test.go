package rod_test

import (
	"math"
	"slices"
	"testing"

	"musette/api"
	"musette/rod"
)

// P3.1: the numbers of a machine have their bounds; those of Open depend on Travel.
func TestCheckSizes(t *testing.T) {
	for _, c := range []struct {
		name        string
		set         func(m *api.Machine, n int)
		least, most int
	}{
		{"rods", func(m *api.Machine, n int) { m.Rods = n }, 1, 6},
		{"levers", func(m *api.Machine, n int) { m.Levers, m.Weights = n, make([]int, max(0, min(n, 9))) }, 1, 6},
		{"registers", func(m *api.Machine, n int) { m.Registers = n }, 0, 2},
		{"travel", func(m *api.Machine, n int) { m.Travel, m.Open = n, 1 }, 1, 12},
		{"open", func(m *api.Machine, n int) { m.Travel, m.Open = 12, n }, 1, 12},
		{"open below travel", func(m *api.Machine, n int) { m.Travel, m.Open = 5, n }, 1, 5},
	} {
		for _, n := range []int{math.MinInt, -1, 0, 1, 2, 3, 5, 6, 7, 12, 13, math.MaxInt} {
			m := api.Machine{Rods: 1, Levers: 1, Travel: 1, Open: 1, Weights: []int{0}}
			c.set(&m, n)
			want := api.ErrValue
			if c.least <= n && n <= c.most {
				want = api.OK
			}
			if x := rod.Check(m); x != want {
				t.Error(c.name, n, x)
			}
		}
	}
	if x := rod.Check(api.Machine{}); x != api.ErrValue {
		t.Error(x)
	}
}

// P3.1: there are at most four buttons, eight pins and four links.
func TestCheckNumbers(t *testing.T) {
	for number := range 20 {
		for i, c := range []struct {
			most int
			set  func(m *api.Machine)
		}{
			{4, func(m *api.Machine) { m.Buttons = make([]int, number) }},
			{8, func(m *api.Machine) { m.Pins = make([]api.Pin, number) }},
			{4, func(m *api.Machine) { m.Links = slices.Repeat([]api.Link{{To: 1, Lag: 1}}, number) }},
		} {
			want := api.OK
			if number > c.most {
				want = api.ErrMany
			}
			if x := rod.Check(but(c.set)); x != want {
				t.Error(i, number, x)
			}
		}
		want := api.ErrText
		if number == 4 {
			want = api.OK
		}
		if x := rod.Check(but(func(m *api.Machine) { m.Weights = make([]int, number) })); x != want {
			t.Error(number, x)
		}
	}
	if x := rod.Check(largest()); x != api.OK {
		t.Error(x)
	}
}

// change is a change of a machine, and the error that is due to it.
type change struct {
	name string
	make func(m *api.Machine)
	want api.Errno
}

// changes returns changes of the last elements of a machine that has each kind of them, in the order of their errors. Each one breaks all that comes later in the same element, too.
func changes() []change {
	return []change{
		{"rods", func(m *api.Machine) { m.Rods = 7 }, api.ErrValue},
		{"buttons", func(m *api.Machine) { m.Buttons = append(m.Buttons, 9, 9, 9) }, api.ErrMany},
		{"button", func(m *api.Machine) { m.Buttons[1] = 3 }, api.ErrUnknown},
		{"pins", func(m *api.Machine) { m.Pins = append(m.Pins, make([]api.Pin, 5)...) }, api.ErrMany},
		{"lag of a pin", func(m *api.Machine) { m.Pins[0].Lag = 7 }, api.ErrValue},
		{"rod of a pin", func(m *api.Machine) { m.Pins[1] = api.Pin{Rod: 3, Lever: 4, Lag: -1} }, api.ErrUnknown},
		{"lag of a later pin", func(m *api.Machine) { m.Pins[2].Lag = -1 }, api.ErrValue},
		{"lever of a pin", func(m *api.Machine) { m.Pins[3] = api.Pin{Rod: 2, Lever: 4, Lag: -1} }, api.ErrUnknown},
		{"links", func(m *api.Machine) { m.Links = append(m.Links, make([]api.Link, 3)...) }, api.ErrMany},
		{"ends of a link", func(m *api.Machine) { m.Links[0] = api.Link{From: 1, To: 1, Register: 5, Lag: 0} }, api.ErrTwice},
		{"end of a link", func(m *api.Machine) { m.Links[1] = api.Link{From: 3, To: 3, Register: 5, Lag: 0} }, api.ErrUnknown},
		{"number of weights", func(m *api.Machine) { m.Weights = append(m.Weights, 99) }, api.ErrText},
		{"weight", func(m *api.Machine) { m.Weights[0] = 51 }, api.ErrValue},
	}
}

// P3.1: the first error counts, in the order in which the chapter names them.
func TestCheckOrder(t *testing.T) {
	all := changes()
	for i, one := range all {
		for _, other := range all[i:] {
			m := machineM()
			other.make(&m)
			if other.name != one.name {
				one.make(&m)
			}
			if x := rod.Check(m); x != one.want {
				t.Error(one.name, other.name, x)
			}
		}
	}
}

// P3.1: pins and links have their bounds, whichever one it is.
func TestCheckParts(t *testing.T) {
	wrong := []int{math.MinInt, -3, 9, math.MaxInt}
	for _, n := range slices.Concat(wrong, []int{-2, -1, 0, 1, 2, 3, 4, 6, 7}) {
		in := func(least, most int, x api.Errno) api.Errno {
			if least <= n && n <= most {
				return api.OK
			}
			return x
		}
		for place := range 4 {
			for i, c := range []struct {
				set  func(m *api.Machine)
				want api.Errno
			}{
				{func(m *api.Machine) { m.Pins[place].Rod = n }, in(0, 2, api.ErrUnknown)},
				{func(m *api.Machine) { m.Pins[place].Lever = n }, in(0, 3, api.ErrUnknown)},
				{func(m *api.Machine) { m.Pins[place].Lag = n }, in(0, 6, api.ErrValue)},
				{func(m *api.Machine) { m.Weights[place] = n }, in(0, 50, api.ErrValue)},
				{func(m *api.Machine) { m.Buttons[place/2] = n }, in(0, 2, api.ErrUnknown)},
				{func(m *api.Machine) { m.Links[place/2].Lag = n }, in(1, 6, api.ErrValue)},
				{func(m *api.Machine) { m.Links[place/2].Register = n }, in(-1, 0, api.ErrUnknown)},
				{func(m *api.Machine) { m.Links[1].From, m.Links[1].To = n, 2 }, twice(n, 2, in(0, 2, api.ErrUnknown))},
				{func(m *api.Machine) { m.Links[0].From, m.Links[0].To = 1, n }, twice(n, 1, in(0, 2, api.ErrUnknown))},
			} {
				if x := rod.Check(but(c.set)); x != c.want {
					t.Error(n, place, i, x)
				}
			}
		}
	}
	for _, weight := range []int{50, 51} {
		want := []api.Errno{api.OK, api.ErrValue}[weight-50]
		if x := rod.Check(but(func(m *api.Machine) { m.Weights[2] = weight })); x != want {
			t.Error(weight, x)
		}
	}
	none := but(func(m *api.Machine) { m.Registers = 0 })
	if x := rod.Check(none); x != api.ErrUnknown {
		t.Error(x)
	}
	none.Links = none.Links[1:]
	if x := rod.Check(none); x != api.OK {
		t.Error(x)
	}
}

// twice returns ErrTwice if two numbers are the same, otherwise another error.
func twice(a, b int, x api.Errno) api.Errno {
	if a == b {
		return api.ErrTwice
	}
	return x
}

// call is a call of a function of the package: whether its other results are zero values, and its error.
type call struct {
	name string
	of   func(m api.Machine) (bool, api.Errno)
}

// empty tells whether a list is empty.
func empty[T any](list []T, x api.Errno) (bool, api.Errno) { return len(list) == 0, x }

// nought tells whether a result is its zero value.
func nought[T comparable](result T, x api.Errno) (bool, api.Errno) {
	var zero T
	return result == zero, x
}

// none tells whether there is no hand, and nothing is left.
func none(h api.Hand, left int, x api.Errno) (bool, api.Errno) {
	return h.Buttons == nil && h.On == nil && left == 0, x
}

// calls returns calls of all functions that take a machine, with these arguments.
func calls(h api.Hand, set []int, number int, events []api.Event, l []api.Heard) []call {
	return []call{
		{"Turns", func(m api.Machine) (bool, api.Errno) { return empty(rod.Turns(m, h)) }},
		{"Lifts", func(m api.Machine) (bool, api.Errno) { return empty(rod.Lifts(m, h)) }},
		{"Sounds", func(m api.Machine) (bool, api.Errno) { return empty(rod.Sounds(m, h)) }},
		{"Force", func(m api.Machine) (bool, api.Errno) { return nought(rod.Force(m, h)) }},
		{"Depth", func(m api.Machine) (bool, api.Errno) { return nought(rod.Depth(m, set, number, number)) }},
		{"Chart", func(m api.Machine) (bool, api.Errno) { return empty(rod.Chart(m, set)) }},
		{"Chord", func(m api.Machine) (bool, api.Errno) { return empty(rod.Chord(m, set, set)) }},
		{"Play", func(m api.Machine) (bool, api.Errno) { return empty(rod.Play(m, events)) }},
		{"Useless", func(m api.Machine) (bool, api.Errno) { return empty(rod.Useless(m)) }},
		{"Faults", func(m api.Machine) (bool, api.Errno) { return empty(rod.Faults(m)) }},
		{"Broken", func(m api.Machine) (bool, api.Errno) { return empty(rod.Broken(m, set, h)) }},
		{"Suspects", func(m api.Machine) (bool, api.Errno) { return empty(rod.Suspects(m, l)) }},
		{"Fewest", func(m api.Machine) (bool, api.Errno) { return empty(rod.Fewest(m, l)) }},
		{"Blame", func(m api.Machine) (bool, api.Errno) { return empty(rod.Blame(m, l)) }},
		{"Test", func(m api.Machine) (bool, api.Errno) { return none(rod.Test(m, l)) }},
		{"Write", func(m api.Machine) (bool, api.Errno) { return nought(rod.Write(m)) }},
	}
}

// P3.1 to P3.8: each function returns the error of the machine ahead of all others, with zero values.
func TestErrorsOfMachines(t *testing.T) {
	right := calls(press(0), nil, 0, []api.Event{{Kind: api.EventPress}}, nil)
	wrong := calls(press(9, 0), []int{99}, 9, []api.Event{{Kind: 9}}, []api.Heard{heard(press(9))})
	many := calls(press(-1), []int{-1}, -1, make([]api.Event, 13), make([]api.Heard, 6))
	for _, c := range changes() {
		for _, f := range slices.Concat(right, wrong, many) {
			if zero, x := f.of(but(c.make)); !zero || x != c.want {
				t.Error(f.name, c.name, zero, x)
			}
		}
	}
	due := map[string]api.Errno{"Useless": api.OK, "Faults": api.OK, "Write": api.OK, "Play": api.ErrKind}
	for _, f := range wrong {
		want, ok := due[f.name]
		if !ok {
			want = api.ErrUnknown
		}
		if zero, x := f.of(machineM()); x != want || x != api.OK && !zero {
			t.Error(f.name, zero, x)
		}
	}
	for _, f := range right {
		if _, x := f.of(machineM()); x != api.OK && f.name != "Test" {
			t.Error(f.name, x)
		}
	}
}

// wrongSets returns lists of numbers, and their errors as sets of numbers below a limit.
func wrongSets(limit int) []struct {
	list []int
	want api.Errno
} {
	last := limit - 1
	return []struct {
		list []int
		want api.Errno
	}{
		{nil, api.OK}, {[]int{}, api.OK}, {[]int{0}, api.OK}, {[]int{last}, api.OK}, {[]int{0, last}, api.OK},
		{[]int{-1}, api.ErrUnknown}, {[]int{limit}, api.ErrUnknown}, {[]int{math.MinInt}, api.ErrUnknown}, {[]int{math.MaxInt}, api.ErrUnknown},
		{[]int{0, 0}, api.ErrOrder}, {[]int{last, last}, api.ErrOrder}, {[]int{last, 0}, api.ErrOrder}, {[]int{0, last, 0}, api.ErrOrder},
		{[]int{0, limit}, api.ErrUnknown}, {[]int{last, 0, limit}, api.ErrOrder}, {[]int{limit, 0}, api.ErrUnknown}, {[]int{0, -1}, api.ErrUnknown}, {[]int{0, 0, -1}, api.ErrOrder},
	}
}

// P3.1, P3.5, P3.6: a hand is a valid set of buttons, and then one of registers.
func TestErrorsOfHands(t *testing.T) {
	m := but(func(m *api.Machine) { m.Registers, m.Buttons = 2, []int{0, 1, 1} })
	expect := func(h api.Hand, want api.Errno) {
		t.Helper()
		_, a := rod.Turns(m, h)
		_, b := rod.Lifts(m, h)
		_, c := rod.Sounds(m, h)
		_, d := rod.Force(m, h)
		_, e := rod.Broken(m, nil, h)
		if got := []api.Errno{a, b, c, d, e}; !slices.Equal(got, slices.Repeat([]api.Errno{want}, 5)) {
			t.Error(h, got)
		}
		for name, of := range fromHeard() {
			if _, x := of(m, []api.Heard{heard(press(0), 0, 1), heard(h, 9)}); want != api.OK && x != want || want == api.OK && x != api.ErrUnknown {
				t.Error(name, h, x)
			}
		}
	}
	for _, buttons := range wrongSets(3) {
		for _, on := range wrongSets(2) {
			want := buttons.want
			if want == api.OK {
				want = on.want
			}
			expect(api.Hand{Buttons: buttons.list, On: on.list}, want)
		}
	}
}

// fromHeard returns the functions that take what was heard; they tell whether other results are zero values.
func fromHeard() map[string]func(m api.Machine, l []api.Heard) (bool, api.Errno) {
	return map[string]func(m api.Machine, l []api.Heard) (bool, api.Errno){
		"Suspects": func(m api.Machine, l []api.Heard) (bool, api.Errno) { return empty(rod.Suspects(m, l)) },
		"Fewest":   func(m api.Machine, l []api.Heard) (bool, api.Errno) { return empty(rod.Fewest(m, l)) },
		"Blame":    func(m api.Machine, l []api.Heard) (bool, api.Errno) { return empty(rod.Blame(m, l)) },
		"Test":     func(m api.Machine, l []api.Heard) (bool, api.Errno) { return none(rod.Test(m, l)) },
	}
}

// P3.6, P3.7: what was heard has its errors, one by one.
func TestErrorsOfHeard(t *testing.T) {
	right := heard(press(0), 0, 1)
	for name, of := range fromHeard() {
		for number, want := range []api.Errno{api.OK, api.OK, api.OK, api.OK, api.OK, api.OK, api.ErrMany, api.ErrMany} {
			if zero, x := of(machineM(), slices.Repeat([]api.Heard{right}, number)); x != want || x != api.OK && !zero {
				t.Error(name, number, zero, x)
			}
		}
		for _, c := range wrongSets(4) {
			for place := range 5 {
				l := slices.Repeat([]api.Heard{right}, 5)
				l[place].Sounds = c.list
				if zero, x := of(machineM(), l); c.want != api.OK && (x != c.want || !zero) {
					t.Error(name, c.list, place, zero, x)
				}
			}
		}
		for i, c := range []struct {
			l    []api.Heard
			want api.Errno
		}{
			{[]api.Heard{heard(press(1, 0), 9)}, api.ErrOrder},
			{[]api.Heard{heard(pull(press(0), 0, 0), 9)}, api.ErrOrder},
			{[]api.Heard{heard(press(0), 1, 0), heard(press(9))}, api.ErrOrder},
			{[]api.Heard{heard(press(0), 9), heard(press(1, 0))}, api.ErrUnknown},
			{[]api.Heard{heard(press(0), 3, 3), right, heard(press(9))}, api.ErrOrder},
			{slices.Repeat([]api.Heard{heard(press(9), 9)}, 6), api.ErrMany},
		} {
			if zero, x := of(machineM(), c.l); !zero || x != c.want {
				t.Error(name, i, zero, x)
			}
		}
	}
}

// P3.2, P3.3: the errors of Depth, Chart and Chord come in their order.
func TestErrorsOfButtons(t *testing.T) {
	m := but(func(m *api.Machine) { m.Registers = 2 })
	for _, on := range wrongSets(2) {
		if _, x := rod.Chart(m, on.list); x != on.want {
			t.Error(on.list, x)
		}
		for _, levers := range wrongSets(4) {
			want := on.want
			if want == api.OK {
				want = levers.want
			}
			l, x := rod.Chord(m, on.list, levers.list)
			if x != want && (want != api.OK || x != api.ErrNone) || x != api.OK && len(l) > 0 {
				t.Error(on.list, levers.list, l, x)
			}
		}
		for _, wrong := range []int{-1, 4, math.MinInt, math.MaxInt} {
			want := on.want
			if want == api.OK {
				want = api.ErrUnknown
			}
			for i, c := range [][2]int{{wrong, 0}, {0, wrong}, {wrong, wrong}, {2, 0}} {
				if n, x := rod.Depth(m, on.list, c[0], c[1]); n != 0 || x != want {
					t.Error(on.list, wrong, i, n, x)
				}
			}
		}
	}
	if n, x := rod.Depth(m, nil, 1, 3); n != 0 || x != api.ErrNone {
		t.Error(n, x)
	}
}

// P3.5: the set of faults has its errors ahead of the hand.
func TestErrorsOfBroken(t *testing.T) {
	for _, faults := range wrongSets(14) {
		for _, buttons := range wrongSets(2) {
			want := faults.want
			if want == api.OK {
				want = buttons.want
			}
			l, x := rod.Broken(machineM(), faults.list, press(buttons.list...))
			if x != want || x != api.OK && len(l) > 0 {
				t.Error(faults.list, buttons.list, l, x)
			}
		}
	}
	for _, c := range wrongSets(24) {
		if _, x := rod.Broken(largest(), c.list, press()); x != c.want {
			t.Error(c.list, x)
		}
	}
}
