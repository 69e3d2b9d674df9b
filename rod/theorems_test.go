package rod_test

import (
	"slices"
	"testing"

	"musette/api"
	"musette/rod"
)

// subset tells whether all numbers of a list are in another one.
func subset(list, of []int) bool {
	return !slices.ContainsFunc(list, func(n int) bool { return !slices.Contains(of, n) })
}

// less tells whether some number of a list is less than the one at the same place of another list.
func less(list, than []int) bool {
	for i, n := range list {
		if n < than[i] {
			return true
		}
	}
	return false
}

// P3.10: with more buttons, registers, pins or links no lever is lifted less, and none stops to sound.
func TestMore(t *testing.T) {
	d := dice(13)
	list := must[[]int](t)
	higher, louder := 0, 0
	for range 4000 {
		m := d.machine()
		h := d.hand(m)
		more, other := copyOf(m), h
		switch d.roll(0, 3) {
		case 0:
			all := slices.DeleteFunc(subsets(len(m.Buttons)), func(l []int) bool { return !subset(h.Buttons, l) })
			other.Buttons = all[d.roll(0, len(all)-1)]
		case 1:
			all := slices.DeleteFunc(subsets(m.Registers), func(l []int) bool { return !subset(h.On, l) })
			other.On = all[d.roll(0, len(all)-1)]
		case 2:
			if len(m.Pins) < api.MaxPins {
				more.Pins = slices.Insert(more.Pins, d.roll(0, len(m.Pins)), d.pin(m))
			}
		case 3:
			if len(m.Links) < api.MaxLinks && m.Rods > 1 {
				more.Links = slices.Insert(more.Links, d.roll(0, len(m.Links)), d.link(m))
			}
		}
		before, after := list(rod.Lifts(m, h)), list(rod.Lifts(more, other))
		one, two := list(rod.Sounds(m, h)), list(rod.Sounds(more, other))
		if less(after, before) || !subset(one, two) || less(list(rod.Turns(more, other)), list(rod.Turns(m, h))) {
			t.Fatal(m, h, more, other)
		}
		if less(before, after) {
			higher++
		}
		if len(one) < len(two) {
			louder++
		}
	}
	if higher < 500 || louder < 300 {
		t.Error("more seldom matters", higher, louder)
	}
}

// shallower returns a machine whose buttons go down to a depth alone.
func shallower(m api.Machine, depth int) api.Machine {
	m.Travel = depth
	return m
}

// P3.11: at the depth of Depth the lever sounds, one step above it does not; where a button may go less deep, each lever is lifted as much less or not at all.
func TestDeep(t *testing.T) {
	d := dice(14)
	list := must[[]int](t)
	above, lower := 0, 0
	for range 4000 {
		m := d.machine()
		if len(m.Buttons) == 0 {
			continue
		}
		button, lever, on := d.roll(0, len(m.Buttons)-1), d.roll(0, m.Levers-1), d.set(m.Registers)
		h := pull(press(button), on...)
		n, x := rod.Depth(m, on, button, lever)
		if (x == api.OK) != slices.Contains(list(rod.Sounds(m, h)), lever) {
			t.Fatal(m, h, lever, n, x)
		}
		// A machine is valid with a lesser travel as long as no lag is longer.
		for depth := m.Travel - 1; rod.Check(shallower(m, depth)) == api.OK; depth-- {
			s := shallower(m, depth)
			if slices.Contains(list(rod.Sounds(s, h)), lever) != (x == api.OK && n <= depth) {
				t.Fatal(m, h, lever, n, x, depth)
			}
			before, after := list(rod.Lifts(m, h)), list(rod.Lifts(s, h))
			for i := range before {
				if after[i] != max(0, before[i]-(m.Travel-depth)) {
					t.Fatal(m, h, depth, before, after)
				}
				if after[i] > 0 {
					lower++
				}
			}
			if x == api.OK && n > depth {
				above++
			}
		}
	}
	if above < 50 || lower < 500 {
		t.Error("too rare", above, lower)
	}
}

// P3.12: a chord sounds just so, no other set ahead of it does; a chart is what single buttons sound like.
func TestChordsSound(t *testing.T) {
	d := dice(15)
	list := must[[]int](t)
	for range 1000 {
		m := d.machine()
		on := d.set(m.Registers)
		h := pull(d.hand(m), on...)
		chord := list(rod.Chord(m, on, list(rod.Sounds(m, h))))
		if len(chord) > len(h.Buttons) || len(chord) == len(h.Buttons) && slices.Compare(chord, h.Buttons) > 0 || !slices.Equal(list(rod.Sounds(m, pull(press(chord...), on...))), list(rod.Sounds(m, h))) {
			t.Fatal(m, h, chord)
		}
		for button, levers := range must[[][]int](t)(rod.Chart(m, on)) {
			if !slices.Equal(levers, list(rod.Sounds(m, pull(press(button), on...)))) {
				t.Fatal(m, on, button, levers)
			}
		}
	}
}

// P3.13: turns are just what can be reached step by step through links; without links a rod turns only if its button is pressed.
func TestSteps(t *testing.T) {
	d := dice(16)
	list := must[[]int](t)
	linked := 0
	for range 3000 {
		m := d.machine()
		h := d.hand(m)
		turns := list(rod.Turns(m, h))
		alone := copyOf(m)
		alone.Links = nil
		pressed := list(rod.Turns(alone, h))
		for r, turn := range pressed {
			want := 0
			if slices.ContainsFunc(h.Buttons, func(b int) bool { return m.Buttons[b] == r }) {
				want = m.Travel
			}
			if turn != want {
				t.Fatal(m, h, r, turn)
			}
		}
		// Each turn is what its button, or a link to it, makes of it, and no more.
		for r, turn := range turns {
			due := pressed[r]
			for _, l := range m.Links {
				if l.To == r && (l.Register == -1 || slices.Contains(h.On, l.Register)) {
					due = max(due, turns[l.From]-l.Lag)
				}
			}
			if turn != due {
				t.Fatal(m, h, turns)
			}
			if turn > pressed[r] {
				linked++
			}
		}
	}
	if linked < 500 {
		t.Error("links seldom matter", linked)
	}
}

// heardOf returns what is heard of a machine with some faults, as Broken says.
func heardOf(t *testing.T, m api.Machine, faults []int, hands []api.Hand) []api.Heard {
	t.Helper()
	var l []api.Heard
	for _, h := range hands {
		l = append(l, heard(h, must[[]int](t)(rod.Broken(m, faults, h))...))
	}
	return l
}

// P3.14: whichever fault there truly is, it is among the suspects of what it makes heard, and a machine that is whole is, too; all suspects explain what was heard, and no other fault does.
func TestFound(t *testing.T) {
	d := dice(17)
	list := must[[]int](t)
	for range 400 {
		m := d.machine()
		number := len(must[[]api.Fault](t)(rod.Faults(m)))
		var hands []api.Hand
		for range d.roll(0, 5) {
			hands = append(hands, d.hand(m))
		}
		for fault := -1; fault < number; fault++ {
			var faults []int
			if fault >= 0 {
				faults = []int{fault}
			}
			l := heardOf(t, m, faults, hands)
			suspects := list(rod.Suspects(m, l))
			if !slices.Contains(suspects, fault) {
				t.Fatal(m, l, fault, suspects)
			}
			for other := -1; other < number; other++ {
				explained := !slices.ContainsFunc(l, func(h api.Heard) bool {
					return !slices.Equal(withSuspect(m, other, h.Hand), h.Sounds)
				})
				if explained != slices.Contains(suspects, other) {
					t.Fatal(m, l, suspects, other)
				}
			}
		}
	}
}

// P3.15: faults that truly are there are never fewer than Fewest; what it returns explains all, and Blame is always of these faults if there is one such set alone.
func TestFewestOfTrue(t *testing.T) {
	d := dice(18)
	list := must[[]int](t)
	var met [3]int
	for range 600 {
		m := d.machine()
		faults := d.faults(m, 2)
		var hands []api.Hand
		for range d.roll(0, 5) {
			hands = append(hands, d.hand(m))
		}
		l := heardOf(t, m, faults, hands)
		fewest, blame := list(rod.Fewest(m, l)), list(rod.Blame(m, l))
		if len(fewest) > len(faults) || len(fewest) == len(faults) && slices.Compare(fewest, faults) > 0 || !explains(m, fewest, l) {
			t.Fatal(m, l, faults, fewest)
		}
		for number, verdict := range blame {
			in := slices.Contains(fewest, number)
			if in && verdict == api.Never || !in && verdict == api.Always || len(fewest) == len(faults) && slices.Contains(faults, number) && verdict == api.Never {
				t.Fatal(m, l, faults, fewest, blame)
			}
		}
		met[len(fewest)]++
	}
	if slices.Min(met[:]) < 20 {
		t.Error("too rare", met)
	}
}

// P3.16: after the hand of Test is heard, at most as many suspects are left as it says, whatever was true.
func TestAfterTest(t *testing.T) {
	d := dice(19)
	list := must[[]int](t)
	tested := 0
	for range 600 {
		m := d.machine()
		l := d.heard(m, d.faults(m, 1), 3)
		suspects, x := rod.Suspects(m, l)
		h, left, y := rod.Test(m, l)
		if x != api.OK || y != api.OK {
			if y != api.ErrNone || x == api.OK && len(suspects) > 1 && worstLeft(m, suspects, d.hand(m)) != len(suspects) {
				t.Fatal(m, l, suspects, x, y)
			}
			continue
		}
		tested++
		most := 0
		for _, suspect := range suspects {
			after := list(rod.Suspects(m, append(slices.Clone(l), heard(h, withSuspect(m, suspect, h)...))))
			if !slices.Contains(after, suspect) || !subset(after, suspects) {
				t.Fatal(m, l, h, suspects, after)
			}
			most = max(most, len(after))
		}
		if most != left || left >= len(suspects) {
			t.Fatal(m, l, h, left, most)
		}
	}
	if tested < 200 {
		t.Error("there seldom is a test", tested)
	}
}

// P3.17: a useless pin that is gone is never a suspect as long as the machine that is whole is none; with it gone all charts stay.
func TestWithoutUseless(t *testing.T) {
	d := dice(20)
	list := must[[]int](t)
	met := 0
	for range 1500 {
		m := d.machine()
		useless := list(rod.Useless(m))
		suspects, _ := rod.Suspects(m, d.heard(m, d.faults(m, 1), 3))
		for _, pin := range useless {
			if slices.Contains(suspects, 2*m.Levers+pin) && suspects[0] != -1 {
				t.Fatal(m, pin, suspects)
			}
			rest := copyOf(m)
			rest.Pins = slices.Delete(rest.Pins, pin, pin+1)
			for _, on := range subsets(m.Registers) {
				if !lists(must[[][]int](t)(rod.Chart(m, on)), must[[][]int](t)(rod.Chart(rest, on))) {
					t.Fatal(m, pin, on)
				}
			}
			if len(suspects) > 0 && suspects[0] != -1 {
				met++
			}
		}
	}
	if met < 50 {
		t.Error("too rare", met)
	}
}

// order returns the numbers below a limit in some order.
func (d *dice) order(limit int) []int {
	var list []int
	for n := range limit {
		list = slices.Insert(list, d.roll(0, n), n)
	}
	return list
}

// renamed returns the numbers of a set if each number n is now names[n].
func renamed(set, names []int) []int {
	var list []int
	for _, n := range set {
		list = append(list, names[n])
	}
	slices.Sort(list)
	return list
}

// P3.18: if levers or rods get other numbers, or pins another order, the same levers sound.
func TestRenamed(t *testing.T) {
	d := dice(21)
	list := must[[]int](t)
	for range 1500 {
		m := d.machine()
		rods, levers, pins := d.order(m.Rods), d.order(m.Levers), d.order(len(m.Pins))
		other := copyOf(m)
		for i, r := range m.Buttons {
			other.Buttons[i] = rods[r]
		}
		for i, p := range m.Pins {
			other.Pins[pins[i]] = api.Pin{Rod: rods[p.Rod], Lever: levers[p.Lever], Lag: p.Lag}
		}
		for i, l := range m.Links {
			other.Links[i].From, other.Links[i].To = rods[l.From], rods[l.To]
		}
		for i, weight := range m.Weights {
			other.Weights[levers[i]] = weight
		}
		h := d.hand(m)
		if !slices.Equal(renamed(list(rod.Sounds(m, h)), levers), list(rod.Sounds(other, h))) || must[int](t)(rod.Force(m, h)) != must[int](t)(rod.Force(other, h)) || !slices.Equal(renamed(list(rod.Useless(m)), pins), list(rod.Useless(other))) {
			t.Fatal(m, other, h)
		}
		before, after := list(rod.Turns(m, h)), list(rod.Turns(other, h))
		for i, turn := range before {
			if after[rods[i]] != turn {
				t.Fatal(m, other, h, before, after)
			}
		}
	}
}
