package bellow_test

import (
	"slices"
	"testing"

	"musette/api"
	"musette/bellow"
	"musette/rod"
)

// machine returns a valid machine in which most buttons sound.
func (d *dice) machine() api.Machine {
	m := api.Machine{Rods: d.roll(2, 6), Levers: d.roll(1, 6), Registers: d.roll(1, 2), Travel: d.roll(3, 12), Open: d.roll(1, 2)}
	for range 4 {
		m.Buttons = append(m.Buttons, d.roll(0, m.Rods-1))
	}
	for range 8 {
		m.Pins = append(m.Pins, api.Pin{Rod: d.roll(0, m.Rods-1), Lever: d.roll(0, m.Levers-1), Lag: d.roll(0, 2)})
	}
	for range 4 {
		from := d.roll(0, m.Rods-1)
		m.Links = append(m.Links, api.Link{From: from, To: (from + 1) % m.Rods, Register: d.roll(-1, m.Registers-1), Lag: d.roll(1, 3)})
	}
	m.Weights = make([]int, m.Levers)
	return m
}

// T8: if each lever that sounds takes a unit of air per second, the bellows has after each event just the air that all levers took, and the piece can be played just if that is always from nothing to full.
func TestPlayed(t *testing.T) {
	d := dice(20)
	met, took := map[int]int{}, 0
	for range 3000 {
		m := d.machine()
		var events []api.Event
		var sounds [][]int
		for range 30 {
			more := append(slices.Clone(events), api.Event{Kind: d.roll(1, 4), Which: d.roll(0, 3)})
			if l, x := rod.Play(m, more); x == api.OK && len(l) <= api.MaxNotes {
				events, sounds = more, l
			}
		}
		b := tight(d.roll(1, 60), 0, 0)
		start := d.roll(0, b.Full)
		b.Air = to(start, start)
		var p []api.Note
		for _, levers := range sounds {
			p = append(p, rest(d.roll(1, 5), len(levers), len(levers)))
		}
		ways := d.ways(p)
		var levels []api.Range
		air, want := start, api.Always
		for i, levers := range sounds {
			for range levers { // each lever takes its air, whatever the others do
				if ways[i] == api.WayPress {
					air -= p[i].Seconds
				} else {
					air += p[i].Seconds
				}
				took++
			}
			if levels = append(levels, to(air, air)); air < 0 || air > b.Full {
				want = api.Never
			}
		}
		if l := must[[]api.Range](t)(bellow.Levels(b, p, ways)); !slices.Equal(l, levels) {
			t.Fatal(m, events, b, p, ways, l, levels)
		}
		if v := must[int](t)(bellow.Plays(b, p, ways)); v != want {
			t.Fatal(m, events, b, p, ways, v)
		}
		met[want]++
	}
	if min(met[api.Always], met[api.Never]) < 300 || took < 5000 {
		t.Error("too rare", met, took)
	}
}
