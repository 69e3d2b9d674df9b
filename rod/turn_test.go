package rod_test

import (
	"slices"
	"testing"

	"musette/api"
	"musette/rod"
)

// must returns a result that comes without an error.
func must[T any](t *testing.T) func(result T, x api.Errno) T {
	return func(result T, x api.Errno) T {
		t.Helper()
		if x != api.OK {
			t.Fatal(result, x)
		}
		return result
	}
}

// P3.1: links turn other rods, whether their register is on or always; each one loses its lag; the way that loses least counts.
func TestTurns(t *testing.T) {
	link := func(from, to, register, lag int) api.Link {
		return api.Link{From: from, To: to, Register: register, Lag: lag}
	}
	for i, c := range []struct {
		links []api.Link
		h     api.Hand
		want  []int
	}{
		{nil, press(), []int{0, 0, 0, 0}},
		{nil, press(0), []int{10, 0, 0, 0}},
		{nil, press(0, 1, 2), []int{10, 0, 0, 10}},
		{[]api.Link{link(0, 1, -1, 3), link(1, 2, -1, 3), link(2, 3, -1, 3)}, press(0), []int{10, 7, 4, 1}},
		{[]api.Link{link(2, 3, -1, 3), link(1, 2, -1, 3), link(0, 1, -1, 3)}, press(0), []int{10, 7, 4, 1}},
		{[]api.Link{link(0, 1, -1, 10), link(1, 2, -1, 1)}, press(0), []int{10, 0, 0, 0}},
		{[]api.Link{link(0, 1, -1, 7), link(1, 2, -1, 5), link(2, 3, -1, 1)}, press(0), []int{10, 3, 0, 0}},
		{[]api.Link{link(0, 1, -1, 9), link(0, 2, -1, 1), link(2, 1, -1, 1)}, press(0), []int{10, 8, 9, 0}},
		{[]api.Link{link(0, 1, -1, 1), link(1, 0, -1, 1), link(1, 2, -1, 1), link(2, 0, -1, 1)}, press(0), []int{10, 9, 8, 0}},
		{[]api.Link{link(0, 1, -1, 1), link(1, 2, -1, 1), link(2, 0, -1, 1)}, press(), []int{0, 0, 0, 0}},
		{[]api.Link{link(0, 3, -1, 1)}, press(0, 2), []int{10, 0, 0, 10}},
		{[]api.Link{link(0, 1, 0, 1), link(1, 2, 1, 1)}, press(0), []int{10, 0, 0, 0}},
		{[]api.Link{link(0, 1, 0, 1), link(1, 2, 1, 1)}, pull(press(0), 0), []int{10, 9, 0, 0}},
		{[]api.Link{link(0, 1, 0, 1), link(1, 2, 1, 1)}, pull(press(0), 1), []int{10, 0, 0, 0}},
		{[]api.Link{link(0, 1, 0, 1), link(1, 2, 1, 1)}, pull(press(0), 0, 1), []int{10, 9, 8, 0}},
		{[]api.Link{link(0, 1, 0, 1), link(1, 2, 1, 1)}, pull(press(), 0, 1), []int{0, 0, 0, 0}},
		{[]api.Link{link(0, 1, 0, 4), link(0, 1, -1, 6), link(0, 1, 1, 2)}, pull(press(0), 0), []int{10, 6, 0, 0}},
	} {
		m := api.Machine{Rods: 4, Levers: 1, Registers: 2, Travel: 10, Open: 1, Buttons: []int{0, 0, 3}, Links: c.links, Weights: []int{0}}
		if l, x := rod.Turns(m, c.h); !slices.Equal(l, c.want) || x != api.OK {
			t.Error(i, l, x)
		}
	}
}

// P3.1: the pin that lifts most counts; a lever sounds from Open on; levers that are lifted have a weight even if they do not sound, and rods have one if they turn.
func TestLifts(t *testing.T) {
	for i, c := range []struct {
		open          int
		pins          []api.Pin
		lifts, sounds []int
		force         int
	}{
		{1, nil, []int{0, 0}, nil, 2},
		{1, []api.Pin{{Lag: 10}}, []int{0, 0}, nil, 2},
		{1, []api.Pin{{Lag: 9}}, []int{1, 0}, []int{0}, 22},
		{2, []api.Pin{{Lag: 9}}, []int{1, 0}, nil, 22},
		{2, []api.Pin{{Lag: 9}, {Lag: 8}}, []int{2, 0}, []int{0}, 22},
		{2, []api.Pin{{Lag: 8}, {Lag: 9}}, []int{2, 0}, []int{0}, 22},
		{2, []api.Pin{{Lag: 8}, {Lag: 8}}, []int{2, 0}, []int{0}, 22},
		{10, []api.Pin{{}, {Rod: 1, Lever: 1}}, []int{10, 6}, []int{0}, 72},
		{6, []api.Pin{{}, {Rod: 1, Lever: 1}}, []int{10, 6}, []int{0, 1}, 72},
		{1, []api.Pin{{Rod: 2, Lever: 1}}, []int{0, 0}, nil, 2},
		{1, []api.Pin{{Rod: 1, Lag: 5}, {Rod: 0, Lag: 8}, {Rod: 1, Lever: 1, Lag: 6}}, []int{2, 0}, []int{0}, 22},
	} {
		m := api.Machine{Rods: 3, Levers: 2, Travel: 10, Open: c.open, Buttons: []int{0}, Pins: c.pins, Links: []api.Link{{From: 0, To: 1, Register: -1, Lag: 4}}, Weights: []int{20, 50}}
		lifts, x := rod.Lifts(m, press(0))
		sounds, y := rod.Sounds(m, press(0))
		force, z := rod.Force(m, press(0))
		if !slices.Equal(lifts, c.lifts) || !slices.Equal(sounds, c.sounds) || force != c.force || x != api.OK || y != api.OK || z != api.OK {
			t.Error(i, lifts, sounds, force, x, y, z)
		}
	}
}

// forceOf returns the force of a hand.
func forceOf(m api.Machine, h api.Hand) int {
	force := 0
	turns := turnsOf(m, h, m.Travel)
	for _, turn := range turns {
		if turn >= 1 {
			force++
		}
	}
	for lever, lift := range liftsOf(m, turns) {
		if lift >= 1 {
			force += m.Weights[lever]
		}
	}
	return force
}

// P3.1: any machine, with each of its hands.
func TestHands(t *testing.T) {
	d := dice(1)
	var met [7]int
	for range 600 {
		m := d.machine()
		for _, h := range handsOf(m) {
			turns, lifts := must[[]int](t)(rod.Turns(m, h)), must[[]int](t)(rod.Lifts(m, h))
			sounds, force := must[[]int](t)(rod.Sounds(m, h)), must[int](t)(rod.Force(m, h))
			due := turnsOf(m, h, m.Travel)
			if !slices.Equal(turns, due) || !slices.Equal(lifts, liftsOf(m, due)) || !slices.Equal(sounds, soundsOf(m, nil, h)) || force != forceOf(m, h) {
				t.Fatal(m, h, turns, lifts, sounds, force)
			}
			met[len(sounds)]++
		}
	}
	if met[0] < 1000 || met[1] < 1000 || met[3] < 300 || met[5] == 0 {
		t.Error("too rare", met)
	}
}

// P3.2: any depth of any button, and any chart.
func TestDepths(t *testing.T) {
	d := dice(2)
	var met [13]int
	for range 600 {
		m := d.machine()
		on := d.set(m.Registers)
		chart := must[[][]int](t)(rod.Chart(m, on))
		if len(chart) != len(m.Buttons) {
			t.Fatal(m, chart)
		}
		for button := range m.Buttons {
			h := pull(press(button), on...)
			if !slices.Equal(chart[button], soundsOf(m, nil, h)) {
				t.Fatal(m, on, chart)
			}
			for lever := range m.Levers {
				want, due := 0, api.ErrNone
				for depth := m.Travel; depth > 0; depth-- {
					if liftsOf(m, turnsOf(m, h, depth))[lever] >= m.Open {
						want, due = depth, api.OK
					}
				}
				if n, x := rod.Depth(m, on, button, lever); n != want || x != due {
					t.Fatal(m, on, button, lever, n, x)
				}
				met[want]++
			}
		}
	}
	if slices.Min(met[:]) < 5 {
		t.Error("too rare", met)
	}
}

// P3.3, P3.12: all sets of buttons are gone through, and the first one with which just these levers sound is the chord.
func TestChords(t *testing.T) {
	d := dice(3)
	var met [5]int
	missing, several := 0, 0
	for range 600 {
		m := d.machine()
		on := d.set(m.Registers)
		for _, levers := range subsets(m.Levers) {
			all := slices.DeleteFunc(subsets(len(m.Buttons)), func(buttons []int) bool {
				return !slices.Equal(soundsOf(m, nil, pull(press(buttons...), on...)), levers)
			})
			chord, x := rod.Chord(m, on, levers)
			if len(all) == 0 {
				missing++
				if len(chord) > 0 || x != api.ErrNone {
					t.Fatal(m, on, levers, chord, x)
				}
				continue
			}
			if !slices.Equal(chord, all[0]) || x != api.OK {
				t.Fatal(m, on, levers, chord, x, all)
			}
			met[len(chord)]++
			if len(all) > 1 && len(all[1]) == len(all[0]) {
				several++
			}
		}
		for button, levers := range must[[][]int](t)(rod.Chart(m, on)) {
			if chord := must[[]int](t)(rod.Chord(m, on, levers)); len(chord) > 1 || len(chord) == 1 && chord[0] > button || len(chord) == 0 && len(levers) > 0 {
				t.Fatal(m, on, button, levers, chord)
			}
		}
	}
	if slices.Min(met[:4]) < 10 || missing < 100 || several < 10 {
		t.Error("too rare", met, missing, several)
	}
	// Each button lifts a lever of its own, so that each set of levers has just one chord.
	own := api.Machine{Rods: 4, Levers: 4, Travel: 1, Open: 1, Buttons: []int{3, 2, 1, 0}, Pins: []api.Pin{{}, {Rod: 1, Lever: 1}, {Rod: 2, Lever: 2}, {Rod: 3, Lever: 3}}, Weights: make([]int, 4)}
	for _, levers := range subsets(4) {
		var want []int
		for _, lever := range slices.Backward(levers) {
			want = append(want, 3-lever)
		}
		if chord := must[[]int](t)(rod.Chord(own, nil, levers)); !slices.Equal(chord, want) {
			t.Error(levers, chord)
		}
	}
}
