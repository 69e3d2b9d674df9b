package reed_test

import (
	"slices"
	"testing"

	"musette/api"
	"musette/reed"
)

// found is what all truths of a job say after some strokes.
type found struct {
	tongue                api.Tongue
	worst                 int
	passes, spoiled, fine int
}

// search goes through all truths of a job after some strokes.
func search(j api.Job, strokes []int) found {
	var f found
	var passes, spoiled, fine tally
	begun := false
	for u := range truths(j, strokes) {
		if !begun {
			f.tongue = api.Tongue{Pitch: to(u.pitch, u.pitch), Tip: to(u.tip, u.tip), Root: to(u.root, u.root)}
			begun = true
		}
		widen(&f.tongue.Pitch, u.pitch)
		widen(&f.tongue.Tip, u.tip)
		widen(&f.tongue.Root, u.root)
		f.worst = max(f.worst, u.deviation())
		passes.add(u.passes(j.Within))
		spoiled.add(u.spoiled(j.Least))
		fine.add(u.passes(j.Within) && !u.spoiled(j.Least))
	}
	f.passes, f.spoiled, f.fine = passes.verdict(), spoiled.verdict(), fine.verdict()
	return f
}

// widen makes a range hold a number.
func widen(r *api.Range, n int) { r.Min, r.Max = min(r.Min, n), max(r.Max, n) }

// P0, P1.1, P1.2, P1.3, P1.8, P1.9: all truths of small jobs are gone through.
func TestAllTruths(t *testing.T) {
	d := dice(3)
	seen := map[[3]int]int{}
	for range 4000 {
		j, strokes := d.job(1), d.strokes(3)
		want := search(j, strokes)
		tongue, e1 := reed.After(j, strokes)
		worst, e2 := reed.Worst(j, strokes)
		spoiled, e3 := reed.Spoiled(j, strokes)
		fine, e4 := reed.Fine(j, strokes)
		if e1 != api.OK || e2 != api.OK || e3 != api.OK || e4 != api.OK {
			t.Fatal(j, strokes, e1, e2, e3, e4)
		}
		if tongue != want.tongue || worst != want.worst || spoiled != want.spoiled || fine != want.fine {
			t.Fatal(j, strokes, tongue, worst, spoiled, fine, want)
		}
		if passes, e := reed.Passes(j); e != api.OK || passes != search(j, nil).passes {
			t.Fatal(j, passes, e)
		}
		seen[[3]int{want.passes, want.spoiled, want.fine}]++
	}
	for passes := 1; passes <= 3; passes++ {
		for spoiled := 1; spoiled <= 3; spoiled++ {
			fine := api.Either
			if passes == api.Always && spoiled == api.Never {
				fine = api.Always
			} else if passes == api.Never || spoiled == api.Always {
				fine = api.Never
			}
			if seen[[3]int{passes, spoiled, fine}] == 0 {
				t.Error("never met", passes, spoiled, fine)
			}
		}
	}
}

// P1.2: tongues may end outside the bounds of a job.
func TestAfterBeyondBounds(t *testing.T) {
	far := api.Job{
		Tongue: api.Tongue{Pitch: to(-60, 60), Tip: to(0, 1), Root: to(0, 100)},
		File:   api.File{Up: to(11, 12), Down: to(10, 12), TipWear: to(0, 12), RootWear: to(12, 12)},
		Shifts: []api.Range{to(-60, 60)},
	}
	for i, c := range []struct {
		strokes []int
		want    api.Tongue
		worst   int
	}{
		{nil, far.Tongue, 120},
		{[]int{1, 1, 1, 1, 1, 1}, api.Tongue{Pitch: to(6, 132), Tip: to(-72, 1), Root: to(0, 100)}, 192},
		{[]int{2, 2, 2, 2, 2, 2}, api.Tongue{Pitch: to(-132, 0), Tip: to(0, 1), Root: to(-72, 28)}, 192},
		{[]int{2, 1, 1}, api.Tongue{Pitch: to(-50, 74), Tip: to(-24, 1), Root: to(-12, 88)}, 134},
	} {
		x, e := reed.After(far, c.strokes)
		w, f := reed.Worst(far, c.strokes)
		if x != c.want || e != api.OK || w != c.worst || f != api.OK {
			t.Error(i, x, e, w, f)
		}
	}
}

// P1.2: the greatest deviation is looked for on both sides and under all conditions.
func TestWorst(t *testing.T) {
	for i, c := range []struct {
		least, most int
		shifts      []api.Range
		want        int
	}{
		{0, 0, nil, 0},
		{-3, 2, nil, 3},
		{-2, 3, nil, 3},
		{4, 6, nil, 6},
		{-6, -4, nil, 6},
		{4, 6, []api.Range{to(-5, -5)}, 1},
		{4, 6, []api.Range{to(-20, -20)}, 16},
		{4, 6, []api.Range{to(-20, -20), to(10, 11)}, 17},
		{0, 0, []api.Range{to(-7, 3), to(0, 5)}, 7},
		{0, 0, []api.Range{to(0, 0), to(0, 0), to(0, 0), to(0, 9)}, 9},
		{0, 0, []api.Range{to(9, 9), to(0, 0), to(0, 0), to(0, 0)}, 9},
	} {
		j := plain(c.least, c.most, 1, 1, 1, 0)
		j.Shifts = c.shifts
		if w, e := reed.Worst(j, nil); w != c.want || e != api.OK {
			t.Error(i, w, e)
		}
	}
}

// P1.3: tip and root can each spoil a tongue, alone or together.
func TestSpoiled(t *testing.T) {
	for i, c := range []struct {
		tip, root api.Range
		want      int
	}{
		{to(20, 22), to(20, 22), api.Never},
		{to(19, 22), to(20, 22), api.Either},
		{to(20, 22), to(19, 22), api.Either},
		{to(19, 20), to(19, 20), api.Either},
		{to(18, 19), to(30, 30), api.Always},
		{to(30, 30), to(18, 19), api.Always},
		{to(19, 20), to(18, 19), api.Always},
		{to(18, 19), to(19, 20), api.Always},
	} {
		j := but(func(j *api.Job) { j.Tip, j.Root = c.tip, c.root })
		if v, e := reed.Spoiled(j, nil); v != c.want || e != api.OK {
			t.Error(i, v, e)
		}
	}
}

// listsOf returns all lists of so many strokes in lexicographic order.
func listsOf(number int) [][]int {
	if number == 0 {
		return [][]int{nil}
	}
	var all [][]int
	for stroke := 1; stroke <= 2; stroke++ {
		for _, rest := range listsOf(number - 1) {
			all = append(all, append([]int{stroke}, rest...))
		}
	}
	return all
}

// shortest looks at all lists of strokes.
func shortest(j api.Job) ([]int, bool) {
	for number := range api.MaxStrokes + 1 {
		for _, strokes := range listsOf(number) {
			b := beliefOf(j)
			for _, stroke := range strokes {
				b = b.stroke(j, stroke)
			}
			if b.passes(j) && b.safe(j) {
				return strokes, true
			}
		}
	}
	return nil, false
}

// P1.4, P1.11: after the strokes of Shortest the tongue always is fine; all lists are looked at.
func TestShortestOfAll(t *testing.T) {
	d := dice(4)
	var lengths [api.MaxStrokes + 1]int
	for i := range 4000 {
		j := d.job(1)
		if i%2 == 0 { // known amounts, so that long lists do not end anywhere
			j.Pitch.Max, j.Up.Max, j.Down.Max = j.Pitch.Min, j.Up.Min, j.Down.Min
		}
		want, ok := shortest(j)
		got, e := reed.Shortest(j)
		if ok != (e == api.OK) || !ok && e != api.ErrNone || !slices.Equal(got, want) {
			t.Fatal(j, got, e, want, ok)
		}
		if ok {
			lengths[len(want)]++
			if v, x := reed.Fine(j, got); v != api.Always || x != api.OK {
				t.Fatal(j, got, v, x)
			}
		}
	}
	if slices.Contains(lengths[:], 0) {
		t.Error("a length is never met", lengths)
	}
}

// P1.4: lists of the greatest length, and of one stroke more; both kinds of strokes; a tongue that would be spoiled.
func TestShortest(t *testing.T) {
	thin := plain(-6, -6, 1, 1, 0, 0)
	thin.Tip, thin.Least = to(50, 50), 44
	thinner := thin
	thinner.Least = 45
	spoiled := plain(0, 0, 1, 1, 0, 0)
	spoiled.Root, spoiled.Least = to(19, 30), 20
	mixed := plain(1, 1, 4, 3, 0, 0)
	for i, c := range []struct {
		j    api.Job
		want []int
		e    api.Errno
	}{
		{plain(-6, -6, 1, 1, 0, 0), []int{1, 1, 1, 1, 1, 1}, api.OK},
		{plain(-7, -7, 1, 1, 0, 0), nil, api.ErrNone},
		{plain(6, 6, 1, 1, 0, 0), []int{2, 2, 2, 2, 2, 2}, api.OK},
		{plain(7, 7, 1, 1, 0, 0), nil, api.ErrNone},
		{thin, []int{1, 1, 1, 1, 1, 1}, api.OK},
		{thinner, nil, api.ErrNone},
		{spoiled, nil, api.ErrNone},
		{plain(2, 2, 4, 3, 0, 0), []int{1, 2, 2}, api.OK},
		{mixed, []int{1, 1, 2, 2, 2}, api.OK},
		{plain(-1, -1, 0, 0, 0, 0), nil, api.ErrNone},
		{plain(0, 0, 0, 0, 0, 0), nil, api.OK},
		{plain(-60, -60, 12, 12, 0, 0), []int{1, 1, 1, 1, 1}, api.OK},
	} {
		if l, e := reed.Shortest(c.j); !slices.Equal(l, c.want) || e != c.e {
			t.Error(i, l, e)
		}
	}
}
