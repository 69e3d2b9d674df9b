package rod_test

import (
	"cmp"
	"math/bits"
	"slices"

	"musette/api"
)

// machineM returns the machine M of the chapter's examples.
func machineM() api.Machine {
	return api.Machine{
		Rods: 3, Levers: 4, Registers: 1, Travel: 6, Open: 2,
		Buttons: []int{0, 1},
		Pins:    []api.Pin{{Rod: 0, Lever: 0, Lag: 2}, {Rod: 0, Lever: 1, Lag: 4}, {Rod: 1, Lever: 1, Lag: 3}, {Rod: 2, Lever: 2, Lag: 1}},
		Links:   []api.Link{{From: 0, To: 2, Register: 0, Lag: 2}, {From: 1, To: 2, Register: -1, Lag: 4}},
		Weights: []int{1, 2, 3, 4},
	}
}

// largest returns a machine in which there is as much as there can be of everything.
func largest() api.Machine {
	return api.Machine{
		Rods: 6, Levers: 6, Registers: 2, Travel: 12, Open: 2,
		Buttons: []int{0, 1, 2, 5},
		Pins:    []api.Pin{{Rod: 0, Lever: 0, Lag: 10}, {Rod: 1, Lever: 1}, {Rod: 2, Lever: 2, Lag: 3}, {Rod: 3, Lever: 3, Lag: 10}, {Rod: 4, Lever: 4, Lag: 5}, {Rod: 5, Lever: 5, Lag: 11}, {Rod: 4, Lever: 0, Lag: 1}, {Rod: 3, Lever: 1, Lag: 12}},
		Links:   []api.Link{{From: 0, To: 3, Register: -1, Lag: 1}, {From: 3, To: 4, Register: 0, Lag: 2}, {From: 4, To: 5, Register: 1, Lag: 3}, {From: 5, To: 0, Register: -1, Lag: 12}},
		Weights: []int{50, 0, 10, 20, 30, 40},
	}
}

// copyOf returns a machine that shares no memory with the first one.
func copyOf(m api.Machine) api.Machine {
	m.Buttons, m.Pins, m.Links, m.Weights = slices.Clone(m.Buttons), slices.Clone(m.Pins), slices.Clone(m.Links), slices.Clone(m.Weights)
	return m
}

// but returns the machine M after a change.
func but(change func(m *api.Machine)) api.Machine {
	m := machineM()
	change(&m)
	return m
}

// press returns a hand that presses buttons.
func press(buttons ...int) api.Hand { return api.Hand{Buttons: buttons} }

// pull returns a hand with other registers that are on.
func pull(h api.Hand, on ...int) api.Hand {
	h.On = on
	return h
}

// heard returns what sounded with a hand.
func heard(h api.Hand, levers ...int) api.Heard { return api.Heard{Hand: h, Sounds: levers} }

// equal tells whether two machines are the same.
func equal(a, b api.Machine) bool {
	return a.Rods == b.Rods && a.Levers == b.Levers && a.Registers == b.Registers && a.Travel == b.Travel && a.Open == b.Open &&
		slices.Equal(a.Buttons, b.Buttons) && slices.Equal(a.Pins, b.Pins) && slices.Equal(a.Links, b.Links) && slices.Equal(a.Weights, b.Weights)
}

// isZero tells whether a machine is the zero value, but for empty slices.
func isZero(m api.Machine) bool { return equal(m, api.Machine{}) }

// same tells whether two hands are the same.
func same(a, b api.Hand) bool {
	return slices.Equal(a.Buttons, b.Buttons) && slices.Equal(a.On, b.On)
}

// lists tells whether two lists of lists are the same.
func lists(a, b [][]int) bool { return slices.EqualFunc(a, b, slices.Equal[[]int]) }

// dice gives numbers that look random but are the same in each run.
type dice uint64

// roll returns a number from least to most.
func (d *dice) roll(least, most int) int {
	*d = *d*6364136223846793005 + 1442695040888963407
	return least + int(uint64(*d)>>33)%(most-least+1)
}

// much returns a number from least to most, a great one more often than a small one.
func (d *dice) much(least, most int) int { return d.roll(d.roll(least, most), most) }

// machine returns a valid machine. Lags are short more often than long, so that much sounds.
func (d *dice) machine() api.Machine {
	m := api.Machine{Rods: d.much(1, 6), Levers: d.much(1, 6), Registers: d.roll(0, 2), Travel: d.much(1, 12)}
	m.Open = d.roll(1, d.roll(1, m.Travel))
	for range d.much(0, 4) {
		m.Buttons = append(m.Buttons, d.roll(0, m.Rods-1))
	}
	for range d.much(0, 8) {
		m.Pins = append(m.Pins, d.pin(m))
	}
	for range d.roll(0, 4) {
		if m.Rods > 1 {
			m.Links = append(m.Links, d.link(m))
		}
	}
	for range m.Levers {
		m.Weights = append(m.Weights, d.roll(0, 50))
	}
	return m
}

// pin returns a valid pin.
func (d *dice) pin(m api.Machine) api.Pin {
	return api.Pin{Rod: d.roll(0, m.Rods-1), Lever: d.roll(0, m.Levers-1), Lag: d.roll(0, d.roll(0, m.Travel))}
}

// link returns a valid link of a machine that has more than one rod.
func (d *dice) link(m api.Machine) api.Link {
	from := d.roll(0, m.Rods-1)
	return api.Link{From: from, To: (from + d.roll(1, m.Rods-1)) % m.Rods, Register: d.roll(-1, m.Registers-1), Lag: d.roll(1, d.roll(1, m.Travel))}
}

// set returns a valid set of numbers below a limit.
func (d *dice) set(limit int) []int {
	var list []int
	for n := range limit {
		if d.roll(0, 1) == 0 {
			list = append(list, n)
		}
	}
	return list
}

// hand returns a valid hand.
func (d *dice) hand(m api.Machine) api.Hand {
	return api.Hand{Buttons: d.set(len(m.Buttons)), On: d.set(m.Registers)}
}

// faults returns at most so many faults.
func (d *dice) faults(m api.Machine, most int) []int {
	var list []int
	for range d.roll(0, most) {
		list = append(list, d.roll(0, len(faultsOf(m))-1))
	}
	slices.Sort(list)
	return slices.Compact(list)
}

// heard returns what is heard of a machine with some faults, at most so often.
func (d *dice) heard(m api.Machine, faults []int, most int) []api.Heard {
	var l []api.Heard
	for range d.roll(0, most) {
		h := d.hand(m)
		l = append(l, heard(h, soundsOf(m, faults, h)...))
	}
	return l
}

// turnsOf returns how far each rod turns if the buttons of a hand are pressed to a depth: for each pressed button it looks for the ways through links that lose least.
func turnsOf(m api.Machine, h api.Hand, depth int) []int {
	turns := make([]int, m.Rods)
	var follow func(rod, turn int, passed []int)
	follow = func(rod, turn int, passed []int) {
		if turn <= 0 || slices.Contains(passed, rod) {
			return
		}
		turns[rod] = max(turns[rod], turn)
		for _, l := range m.Links {
			if l.From == rod && (l.Register == -1 || slices.Contains(h.On, l.Register)) {
				follow(l.To, turn-l.Lag, append(slices.Clone(passed), rod))
			}
		}
	}
	for _, b := range h.Buttons {
		follow(m.Buttons[b], depth, nil)
	}
	return turns
}

// liftsOf returns how far each lever is lifted if the rods turn so far.
func liftsOf(m api.Machine, turns []int) []int {
	lifts := make([]int, m.Levers)
	for lever := range lifts {
		for _, p := range m.Pins {
			if p.Lever == lever && turns[p.Rod]-p.Lag > lifts[lever] {
				lifts[lever] = turns[p.Rod] - p.Lag
			}
		}
	}
	return lifts
}

// faultsOf returns all faults of a machine, in the words of the chapter.
func faultsOf(m api.Machine) []api.Fault {
	var all []api.Fault
	for kind, number := range []int{m.Levers, m.Levers, len(m.Pins), len(m.Links)} {
		for which := range number {
			all = append(all, api.Fault{Kind: kind + 1, Which: which})
		}
	}
	return all
}

// soundsOf returns the levers that sound in a machine with some faults. A pin that is gone lifts a lever by nothing, and a link that is gone goes nowhere.
func soundsOf(m api.Machine, faults []int, h api.Hand) []int {
	rest := copyOf(m)
	opened, closed := map[int]bool{}, map[int]bool{}
	for _, number := range faults {
		switch f := faultsOf(m)[number]; f.Kind {
		case api.FaultShut:
			closed[f.Which] = true
		case api.FaultOpen:
			opened[f.Which] = true
		case api.FaultPin:
			rest.Pins[f.Which].Lag = 99
		case api.FaultLink:
			rest.Links[f.Which].Lag = 99
		}
	}
	var sounds []int
	for lever, lift := range liftsOf(rest, turnsOf(rest, h, m.Travel)) {
		if (lift >= m.Open || opened[lever]) && !closed[lever] {
			sounds = append(sounds, lever)
		}
	}
	return sounds
}

// subsets returns all sets of numbers below a limit, smaller ones first, those that are as large in lexicographic order.
func subsets(limit int) [][]int {
	var all [][]int
	for set := range uint(1) << limit {
		var list []int
		for rest := set; rest != 0; rest &= rest - 1 {
			list = append(list, bits.TrailingZeros(rest))
		}
		all = append(all, list)
	}
	slices.SortFunc(all, func(a, b []int) int { return cmp.Or(cmp.Compare(len(a), len(b)), slices.Compare(a, b)) })
	return all
}

// handsOf returns all hands for a machine, in their order.
func handsOf(m api.Machine) []api.Hand {
	var all []api.Hand
	for _, buttons := range subsets(len(m.Buttons)) {
		for _, on := range subsets(m.Registers) {
			all = append(all, api.Hand{Buttons: buttons, On: on})
		}
	}
	return all
}

// explains tells whether a machine with some faults sounds just so as was heard.
func explains(m api.Machine, faults []int, l []api.Heard) bool {
	return !slices.ContainsFunc(l, func(h api.Heard) bool { return !slices.Equal(soundsOf(m, faults, h.Hand), h.Sounds) })
}

// explaining returns all sets of so many faults that explain what was heard, in lexicographic order.
func explaining(m api.Machine, l []api.Heard, number int) [][]int {
	limit := len(faultsOf(m))
	sets := [][]int{nil}
	for range number {
		var longer [][]int
		for _, set := range sets {
			for n := range limit {
				if len(set) == 0 || n > set[len(set)-1] {
					longer = append(longer, append(slices.Clone(set), n))
				}
			}
		}
		sets = longer
	}
	return slices.DeleteFunc(sets, func(set []int) bool { return !explains(m, set, l) })
}

// suspectsOf returns the suspects, in the words of the chapter.
func suspectsOf(m api.Machine, l []api.Heard) []int {
	var list []int
	if explains(m, nil, l) {
		list = append(list, -1)
	}
	for _, set := range explaining(m, l, 1) {
		list = append(list, set[0])
	}
	return list
}

// withSuspect returns the levers that sound if there is just the fault of a suspect.
func withSuspect(m api.Machine, suspect int, h api.Hand) []int {
	if suspect == -1 {
		return soundsOf(m, nil, h)
	}
	return soundsOf(m, []int{suspect}, h)
}

// worstLeft returns how many of some suspects can be left at most after a hand is heard.
func worstLeft(m api.Machine, suspects []int, h api.Hand) int {
	var all [][]int
	for _, suspect := range suspects {
		all = append(all, withSuspect(m, suspect, h))
	}
	most := 0
	for _, one := range all {
		left := 0
		for _, other := range all {
			if slices.Equal(one, other) {
				left++
			}
		}
		most = max(most, left)
	}
	return most
}
