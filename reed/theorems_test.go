package reed_test

import (
	"slices"
	"testing"

	"musette/api"
	"musette/reed"
)

// count returns how many strokes are said to be needed; none if there is no way.
func count(t *testing.T, strokes int, e api.Errno) int {
	t.Helper()
	switch e {
	case api.OK:
		return strokes
	case api.ErrNone:
		return none
	}
	t.Fatal(e)
	return 0
}

// shortestOf returns how many strokes Shortest needs; none if there is no way.
func shortestOf(t *testing.T, j api.Job) int {
	t.Helper()
	strokes, e := reed.Shortest(j)
	return count(t, len(strokes), e)
}

// guidedOf returns what Guided says; none if there is no way.
func guidedOf(t *testing.T, j api.Job) int {
	t.Helper()
	strokes, e := reed.Guided(j)
	return count(t, strokes, e)
}

// narrower returns a job that knows at least as much, with a meter that errs no more.
func narrower(d *dice, j api.Job) api.Job {
	j.Shifts = slices.Clone(j.Shifts)
	ranges := []*api.Range{&j.Pitch, &j.Tip, &j.Root, &j.Up, &j.Down, &j.TipWear, &j.RootWear}
	for i := range j.Shifts {
		ranges = append(ranges, &j.Shifts[i])
	}
	for _, r := range ranges {
		from := d.roll(r.Min, r.Max)
		*r = to(from, d.roll(from, r.Max))
	}
	j.Meter = d.roll(0, j.Meter)
	return j
}

// P1.13: who knows more needs no more strokes, and no verdict that is sure changes.
func TestNarrowerIsBetter(t *testing.T) {
	d := dice(8)
	better := 0
	for range 4000 {
		wide, strokes := d.job(2), d.strokes(4)
		narrow := narrower(&d, wide)
		if shortestOf(t, narrow) > shortestOf(t, wide) || guidedOf(t, narrow) > guidedOf(t, wide) {
			t.Fatal(wide, narrow)
		}
		if guidedOf(t, narrow) < guidedOf(t, wide) {
			better++
		}
		for i, verdict := range []func(api.Job) (int, api.Errno){
			reed.Passes,
			func(j api.Job) (int, api.Errno) { return reed.Spoiled(j, strokes) },
			func(j api.Job) (int, api.Errno) { return reed.Fine(j, strokes) },
		} {
			before, e := verdict(wide)
			after, x := verdict(narrow)
			if e != api.OK || x != api.OK || before != api.Either && after != before {
				t.Fatal(i, wide, narrow, strokes, before, after)
			}
		}
	}
	if better < 100 {
		t.Error("nothing is better", better)
	}
}

// P1.14: whoever reads a meter needs no more strokes than whoever does not.
func TestGuidedNeedsNoMore(t *testing.T) {
	d := dice(9)
	fewer := 0
	for range 4000 {
		j := d.job(2)
		shortest, guided := shortestOf(t, j), guidedOf(t, j)
		if shortest <= api.MaxGame && guided > shortest {
			t.Fatal(j, shortest, guided)
		}
		if guided < shortest {
			fewer++
		}
	}
	if fewer < 100 {
		t.Error("a meter never helps", fewer)
	}
}

// P1.14: without errors, and if all amounts are known, both need as many strokes.
func TestGuidedOfKnownAmounts(t *testing.T) {
	d := dice(10)
	var met [api.MaxGame + 1]int
	for range 4000 {
		j := d.job(0)
		j.Meter = 0
		if v, _ := reed.Spoiled(j, nil); v != api.Never {
			continue
		}
		shortest, guided := shortestOf(t, j), guidedOf(t, j)
		if shortest > api.MaxGame {
			shortest = none
		}
		if guided != shortest {
			t.Fatal(j, shortest, guided)
		}
		if guided != none {
			met[guided]++
		}
	}
	if slices.Contains(met[:], 0) {
		t.Error("a number is never met", met)
	}
}

// turned returns a range turned about 0.
func turned(r api.Range) api.Range { return to(-r.Max, -r.Min) }

// mirrored returns a job whose pitch and shifts are turned about 0, and whose tip and root are exchanged.
func mirrored(j api.Job) api.Job {
	j.Pitch = turned(j.Pitch)
	j.Tip, j.Root = j.Root, j.Tip
	j.Up, j.Down = j.Down, j.Up
	j.TipWear, j.RootWear = j.RootWear, j.TipWear
	j.Shifts = slices.Clone(j.Shifts)
	for i, shift := range j.Shifts {
		j.Shifts[i] = turned(shift)
	}
	return j
}

// exchanged returns strokes at the other ends.
func exchanged(strokes []int) []int {
	other := make([]int, len(strokes))
	for i, stroke := range strokes {
		other[i] = api.StrokeTip + api.StrokeRoot - stroke
	}
	return other
}

// P1.15: what is turned about 0 is mirrored.
func TestMirrored(t *testing.T) {
	d := dice(11)
	for range 4000 {
		j, strokes := d.job(2), d.strokes(6)
		m, others := mirrored(j), exchanged(strokes)
		w1, e1 := reed.Window(j)
		w2, e2 := reed.Window(m)
		if e1 != e2 || w2 != turned(w1) {
			t.Fatal(j, w1, e1, w2, e2)
		}
		a1, e1 := reed.After(j, strokes)
		a2, e2 := reed.After(m, others)
		want := api.Tongue{Pitch: turned(a1.Pitch), Tip: a1.Root, Root: a1.Tip}
		if e1 != api.OK || e2 != api.OK || a2 != want {
			t.Fatal(j, strokes, a1, e1, a2, e2)
		}
		if shortestOf(t, j) != shortestOf(t, m) || guidedOf(t, j) != guidedOf(t, m) {
			t.Fatal(j)
		}
		s1, n1, e1 := reed.Next(j)
		s2, n2, e2 := reed.Next(m)
		if e1 != e2 || n1 != n2 {
			t.Fatal(j, n1, e1, n2, e2)
		}
		if e1 == api.OK && s1 == api.StrokeRoot && s2 != api.StrokeTip {
			t.Fatal("a stroke at the root is the only best one, but not mirrored", j, s1, s2)
		}
	}
}

// P0, P1.8: all that a tongue becomes is within what is said, whatever it truly is; both ends of each range are reached.
func TestTrue(t *testing.T) {
	d := dice(12)
	for range 1000 {
		j, strokes := d.job(2), d.strokes(6)
		tongue, e := reed.After(j, strokes)
		if e != api.OK {
			t.Fatal(j, strokes, e)
		}
		b := beliefOf(j)
		for _, stroke := range strokes {
			b = b.stroke(j, stroke)
		}
		for i, c := range []struct {
			said api.Range
			all  []int
		}{{tongue.Pitch, b.pitches}, {tongue.Tip, b.tips}, {tongue.Root, b.roots}} {
			if c.said != to(slices.Min(c.all), slices.Max(c.all)) {
				t.Fatal(i, j, strokes, tongue)
			}
		}
		worst, e := reed.Worst(j, strokes)
		deviation := 0
		for _, pitch := range b.pitches {
			shifted(j.Shifts, truth{pitch: pitch}, func(u truth) bool {
				deviation = max(deviation, u.deviation())
				return true
			})
		}
		if e != api.OK || worst != deviation {
			t.Fatal(j, strokes, worst, e, deviation)
		}
	}
}
