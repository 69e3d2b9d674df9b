package rod_test

import (
	"slices"
	"testing"

	"musette/api"
	"musette/rod"
)

// P3.5: all faults, in order.
func TestFaults(t *testing.T) {
	d := dice(6)
	for range 300 {
		m := d.machine()
		if l := must[[]api.Fault](t)(rod.Faults(m)); !slices.Equal(l, faultsOf(m)) {
			t.Fatal(m, l)
		}
	}
	if l := must[[]api.Fault](t)(rod.Faults(largest())); len(l) != 24 || l[5] != (api.Fault{Kind: api.FaultShut, Which: 5}) || l[6] != (api.Fault{Kind: api.FaultOpen}) || l[12] != (api.Fault{Kind: api.FaultPin}) || l[20] != (api.Fault{Kind: api.FaultLink}) || l[23] != (api.Fault{Kind: api.FaultLink, Which: 3}) {
		t.Error(l)
	}
	if l := must[[]api.Fault](t)(rod.Faults(api.Machine{Rods: 1, Levers: 1, Travel: 1, Open: 1, Weights: []int{0}})); !slices.Equal(l, []api.Fault{{Kind: api.FaultShut}, {Kind: api.FaultOpen}}) {
		t.Error(l)
	}
}

// P3.5: what a machine with faults sounds like.
func TestBroken(t *testing.T) {
	for i, c := range []struct {
		faults []int
		h      api.Hand
		want   []int
	}{
		{nil, pull(press(0), 0), []int{0, 1, 2}},
		{[]int{0}, pull(press(0), 0), []int{1, 2}},
		{[]int{0, 1, 2, 3}, pull(press(0), 0), nil},
		{[]int{4}, press(), []int{0}},
		{[]int{4}, press(1), []int{0, 1}},
		{[]int{4, 5, 6, 7}, press(), []int{0, 1, 2, 3}},
		{[]int{0, 4}, press(0), []int{1}},
		{[]int{0, 4}, press(), nil},
		{[]int{3, 7}, press(), nil},
		{[]int{0, 5}, press(), []int{1}},
		{[]int{9}, press(0), []int{0}},
		{[]int{9}, press(0, 1), []int{0, 1}},
		{[]int{9, 10}, press(0, 1), []int{0}},
		{[]int{8, 9, 10}, press(0, 1), nil},
		{[]int{5, 9, 10}, press(0, 1), []int{0, 1}},
		{[]int{12}, pull(press(0), 0), []int{0, 1}},
		{[]int{13}, pull(press(0), 0), []int{0, 1, 2}},
		{[]int{0, 1, 2, 3, 4, 5, 6, 7, 8, 9, 10, 11, 12, 13}, pull(press(0, 1), 0), nil},
	} {
		if l := must[[]int](t)(rod.Broken(machineM(), c.faults, c.h)); !slices.Equal(l, c.want) {
			t.Error(i, l)
		}
	}
	d := dice(7)
	for range 5000 {
		m := d.machine()
		faults, h := d.faults(m, 6), d.hand(m)
		if l := must[[]int](t)(rod.Broken(m, faults, h)); !slices.Equal(l, soundsOf(m, faults, h)) {
			t.Fatal(m, faults, h, l)
		}
	}
}

// P3.5: pins that are not missed alone.
func TestUseless(t *testing.T) {
	d := dice(8)
	var met [9]int
	for range 600 {
		m := d.machine()
		var want []int
		for pin := range m.Pins {
			fault := 2*m.Levers + pin
			if !slices.ContainsFunc(handsOf(m), func(h api.Hand) bool { return !slices.Equal(soundsOf(m, nil, h), soundsOf(m, []int{fault}, h)) }) {
				want = append(want, pin)
			}
		}
		if l := must[[]int](t)(rod.Useless(m)); !slices.Equal(l, want) {
			t.Fatal(m, l, want)
		}
		met[len(want)]++
	}
	if slices.Min(met[:6]) < 5 {
		t.Error("too rare", met)
	}
	// Of two pins that do the same each alone could be gone; without the link of the register nothing makes the lever 2 sound.
	twin := but(func(m *api.Machine) { m.Pins = append(m.Pins, api.Pin{Rod: 1, Lever: 1, Lag: 3}) })
	if l := must[[]int](t)(rod.Useless(twin)); !slices.Equal(l, []int{2, 4}) {
		t.Error(l)
	}
	idle := but(func(m *api.Machine) { m.Links = m.Links[1:] })
	if l := must[[]int](t)(rod.Useless(idle)); !slices.Equal(l, []int{3}) {
		t.Error(l)
	}
}

// blameOf returns the verdicts on all faults from the sets that explain what was heard.
func blameOf(m api.Machine, sets [][]int) []int {
	var verdicts []int
	for number := range faultsOf(m) {
		blamed := slices.DeleteFunc(slices.Clone(sets), func(set []int) bool { return !slices.Contains(set, number) })
		switch len(blamed) {
		case 0:
			verdicts = append(verdicts, api.Never)
		case len(sets):
			verdicts = append(verdicts, api.Always)
		default:
			verdicts = append(verdicts, api.Either)
		}
	}
	return verdicts
}

// P3.6, P3.15: all sets of faults are gone through.
func TestFewest(t *testing.T) {
	d := dice(9)
	var met [4]int
	for range 800 {
		m := d.machine()
		l := d.heard(m, d.faults(m, 3), 5)
		if len(l) > 0 && d.roll(0, 9) == 0 { // what was heard was something else
			l[0].Sounds = d.set(m.Levers)
		}
		var sets [][]int
		number := -1
		for len(sets) == 0 && number < 2 {
			number++
			sets = explaining(m, l, number)
		}
		faults, x := rod.Fewest(m, l)
		blame, y := rod.Blame(m, l)
		if len(sets) == 0 {
			met[3]++
			if len(faults) > 0 || len(blame) > 0 || x != api.ErrNone || y != api.ErrNone {
				t.Fatal(m, l, faults, blame, x, y)
			}
			continue
		}
		met[number]++
		if !slices.Equal(faults, sets[0]) || !slices.Equal(blame, blameOf(m, sets)) || x != api.OK || y != api.OK {
			t.Fatal(m, l, faults, blame, x, y, sets)
		}
	}
	if slices.Min(met[:]) < 20 {
		t.Error("too rare", met)
	}
}

// P3.6: one fault alone can explain it, even if two do, or none is needed.
func TestSuspects(t *testing.T) {
	d := dice(10)
	var met [3]int
	for range 2000 {
		m := d.machine()
		l := d.heard(m, d.faults(m, 3), 5)
		want := suspectsOf(m, l)
		got, x := rod.Suspects(m, l)
		if len(want) == 0 {
			met[0]++
			if len(got) > 0 || x != api.ErrNone {
				t.Fatal(m, l, got, x)
			}
			continue
		}
		if !slices.Equal(got, want) || x != api.OK {
			t.Fatal(m, l, got, x, want)
		}
		if want[0] == -1 {
			met[1]++
		} else {
			met[2]++
		}
	}
	if slices.Min(met[:]) < 100 {
		t.Error("too rare", met)
	}
}

// P3.7, P3.16: no hand is better than the one of Test, and none ahead of it is as good.
func TestTest(t *testing.T) {
	d := dice(11)
	alike, late, registers := 0, 0, 0
	for range 600 {
		m := d.machine()
		l := d.heard(m, d.faults(m, 1), 3)
		suspects := suspectsOf(m, l)
		var best api.Hand
		least := len(suspects)
		for _, h := range handsOf(m) {
			if n := worstLeft(m, suspects, h); n < least {
				best, least = h, n
			}
		}
		h, left, x := rod.Test(m, l)
		if least == len(suspects) {
			alike++
			if !same(h, api.Hand{}) || left != 0 || x != api.ErrNone {
				t.Fatal(m, l, h, left, x)
			}
			continue
		}
		if !same(h, best) || left != least || x != api.OK {
			t.Fatal(m, l, h, left, x, best, least)
		}
		if len(best.Buttons) > 1 {
			late++
		}
		if len(best.On) > 0 {
			registers++
		}
	}
	if alike < 20 || late < 20 || registers < 10 {
		t.Error("too rare", alike, late, registers)
	}
}

// P3.7: of hands that are as good the first one is returned, in the order of hands.
func TestOrderOfHands(t *testing.T) {
	// The links need buttons and registers together, so that no hand with one button tells most.
	m := api.Machine{
		Rods: 6, Levers: 6, Registers: 2, Travel: 2, Open: 1,
		Buttons: []int{0, 1, 2, 3},
		Pins:    []api.Pin{{Rod: 4, Lever: 4}, {Rod: 5, Lever: 5}, {Rod: 1, Lever: 1}},
		Links:   []api.Link{{From: 0, To: 4, Register: 1, Lag: 1}, {From: 2, To: 4, Register: 0, Lag: 1}, {From: 2, To: 5, Register: 1, Lag: 1}},
		Weights: make([]int, 6),
	}
	suspects := suspectsOf(m, []api.Heard{heard(press())})
	var good []api.Hand
	least := len(suspects)
	for _, h := range handsOf(m) {
		n := worstLeft(m, suspects, h)
		if n < least {
			good, least = nil, n
		}
		if n == least {
			good = append(good, h)
		}
	}
	h, left, x := rod.Test(m, []api.Heard{heard(press())})
	if !same(h, good[0]) || left != least || x != api.OK || len(good) < 2 || len(h.Buttons) < 2 || len(h.On) == 0 {
		t.Error(h, left, x, good, least)
	}
}
