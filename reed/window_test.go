package reed_test

import (
	"math"
	"testing"

	"musette/api"
	"musette/reed"
)

// P1.1: windows at their edges.
func TestWindows(t *testing.T) {
	shifted := func(within int, shifts ...api.Range) api.Job {
		return but(func(j *api.Job) { j.Within, j.Shifts = within, shifts })
	}
	for i, c := range []struct {
		j    api.Job
		want api.Range
		e    api.Errno
	}{
		{shifted(0), to(0, 0), api.OK},
		{shifted(60), to(-60, 60), api.OK},
		{shifted(0, to(0, 0)), to(0, 0), api.OK},
		{shifted(0, to(0, 1)), to(0, 0), api.ErrNone},
		{shifted(0, to(7, 7)), to(-7, -7), api.OK},
		{shifted(5, to(-5, 5)), to(0, 0), api.OK},
		{shifted(5, to(-5, 6)), to(0, 0), api.ErrNone},
		{shifted(5, to(-5, -5), to(5, 5)), to(0, 0), api.OK},
		{shifted(5, to(-6, -6), to(5, 5)), to(0, 0), api.ErrNone},
		{shifted(60, to(-60, -60)), to(0, 120), api.OK},
		{shifted(60, to(60, 60)), to(-120, 0), api.OK},
		{shifted(3, to(0, 0), to(0, 0), to(0, 0), to(1, 2)), to(-3, 1), api.OK},
		{shifted(3, to(1, 2), to(0, 0), to(0, 0), to(0, 0)), to(-3, 1), api.OK},
	} {
		if w, e := reed.Window(c.j); w != c.want || e != c.e {
			t.Error(i, w, e)
		}
	}
}

// P1.1, P1.10: a tongue of a known pitch always passes just if its pitch is in the window.
func TestWindowHoldsWhatPasses(t *testing.T) {
	d := dice(1)
	empty := 0
	for range 3000 {
		j := d.job(2)
		window, e := reed.Window(j)
		if e == api.ErrNone {
			empty++
		}
		if e != api.OK && (e != api.ErrNone || window != to(0, 0)) {
			t.Fatal(j, window, e)
		}
		for pitch := -15; pitch <= 15; pitch++ {
			within := e == api.OK && window.Min <= pitch && pitch <= window.Max
			if within != alwaysPasses(j, pitch) {
				t.Fatal(j, window, e, pitch)
			}
			verdict, x := reed.Passes(pitched(j, pitch, pitch))
			if x != api.OK || within != (verdict == api.Always) {
				t.Fatal(j, window, pitch, verdict, x)
			}
		}
	}
	if empty < 100 || empty > 2900 {
		t.Error("too few windows of one kind", empty)
	}
}

// P1.1: two conditions of which each is met in some truth, but never both.
func TestPassesNeverByTwoConditions(t *testing.T) {
	j := plain(0, 0, 1, 1, 5, 0)
	for i, c := range []struct {
		shifts []api.Range
		want   int
	}{
		{[]api.Range{to(-6, -6), to(6, 6)}, api.Never},
		{[]api.Range{to(-6, -5), to(5, 6)}, api.Either},
		{[]api.Range{to(-5, -5), to(5, 5)}, api.Always},
		{[]api.Range{to(-5, -5), to(6, 6)}, api.Never},
		{[]api.Range{to(-60, 60)}, api.Either},
		{[]api.Range{to(6, 60)}, api.Never},
		{[]api.Range{to(5, 60)}, api.Either},
	} {
		j.Shifts = c.shifts
		if v, e := reed.Passes(j); v != c.want || e != api.OK {
			t.Error(i, v, e)
		}
	}
	wide := pitched(j, -3, 3) // each pitch fails under one of the two
	wide.Shifts = []api.Range{to(-9, -9), to(9, 9)}
	if v, e := reed.Passes(wide); v != api.Never || e != api.OK {
		t.Error(v, e)
	}
}

// P1.1, P1.8: all readings are gone through; what is heard is just the pitches that can be read so.
func TestHear(t *testing.T) {
	d := dice(2)
	for range 500 {
		j := d.job(4)
		j.Meter = d.roll(0, 6)
		for reading := -40; reading <= 40; reading++ {
			least, most, any := 0, 0, false
			for pitch := range numbers(j.Pitch) {
				if size(pitch-reading) <= j.Meter {
					if !any {
						least = pitch
					}
					most, any = pitch, true
				}
			}
			want := api.OK
			if !any {
				want = api.ErrAgainst
			}
			if r, e := reed.Hear(j, reading); r != to(least, most) || e != want {
				t.Fatal(j, reading, r, e)
			}
		}
	}
	wide := pitched(plain(0, 0, 1, 1, 1, 6), -60, 60)
	for reading, want := range map[int]api.Range{-66: to(-60, -60), -60: to(-60, -54), 0: to(-6, 6), 66: to(60, 60)} {
		if r, e := reed.Hear(wide, reading); r != want || e != api.OK {
			t.Error(reading, r, e)
		}
	}
}

// P1, R5: a reading may be any number.
func TestHearAnyReading(t *testing.T) {
	j := pitched(plain(0, 0, 1, 1, 1, 6), -60, 60)
	for _, reading := range []int{-67, 67, math.MinInt, math.MinInt + 5, math.MinInt + 6, math.MaxInt, math.MaxInt - 5, math.MaxInt - 6} {
		if r, e := reed.Hear(j, reading); r != to(0, 0) || e != api.ErrAgainst {
			t.Error(reading, r, e)
		}
	}
}
