package reed_test

import (
	"slices"
	"testing"

	"musette/api"
	"musette/reed"
)

// guided goes through all strokes, amounts and readings of a tuner who begins by reading the meter.
func guided(j api.Job) int {
	g, worst := play(j), 0
	for b := range beliefOf(j).heard(j.Meter) {
		worst = max(worst, g.needs(b, api.MaxGame))
	}
	return worst
}

// next goes through all strokes, amounts and readings of a tuner who has read the meter just now.
func next(j api.Job) (stroke, strokes int) {
	g, b := play(j), beliefOf(j)
	if b.passes(j) {
		return 0, 0
	}
	tip, root := g.with(b, api.StrokeTip, api.MaxGame), g.with(b, api.StrokeRoot, api.MaxGame)
	switch {
	case min(tip, root) >= none:
		return 0, none
	case root < tip:
		return api.StrokeRoot, root
	}
	return api.StrokeTip, tip
}

// P1.5, P1.12: nothing is better than what Guided and Next say; all strokes, amounts and readings are gone through.
func TestGames(t *testing.T) {
	d := dice(5)
	counts, firsts := map[int]int{}, map[[2]int]int{}
	for i := range 6000 {
		j := d.job(i % 3)
		want := guided(j)
		n, e := reed.Guided(j)
		if (want == none) != (e == api.ErrNone) || want != none && (e != api.OK || n != want) || e != api.OK && n != 0 {
			t.Fatal(j, n, e, want)
		}
		stroke, strokes := next(j)
		s, k, x := reed.Next(j)
		if (strokes == none) != (x == api.ErrNone) || strokes != none && (x != api.OK || s != stroke || k != strokes) {
			t.Fatal(j, s, k, x, stroke, strokes)
		}
		if x != api.OK && (s != 0 || k != 0) {
			t.Fatal(j, s, k, x)
		}
		counts[want]++
		firsts[[2]int{stroke, strokes}]++
	}
	for _, n := range []int{0, 1, 2, 3, 4, none} {
		if counts[n] == 0 {
			t.Error("never needed", n)
		}
		for stroke := 1; stroke <= 2 && n > 0 && n != none; stroke++ {
			if firsts[[2]int{stroke, n}] == 0 {
				t.Error("never a next stroke", stroke, n)
			}
		}
	}
}

// P1.5: the greatest number of strokes, and one more; a tuner who stops in time; tongues that are thin.
func TestGuided(t *testing.T) {
	thin := func(tip, root, least int) api.Job {
		j := plain(-2, -2, 1, 1, 0, 0)
		j.Tip, j.Root, j.Least = to(tip, tip), to(root, root), least
		return j
	}
	worn := plain(-2, 2, 2, 1, 0, 0)
	worn.Root, worn.Least = to(49, 60), 49
	for i, c := range []struct {
		j    api.Job
		want int
		e    api.Errno
	}{
		{plain(-4, -4, 1, 1, 0, 0), 4, api.OK},
		{plain(-5, -5, 1, 1, 0, 0), 0, api.ErrNone},
		{plain(4, 4, 1, 1, 0, 0), 4, api.OK},
		{plain(5, 5, 1, 1, 0, 0), 0, api.ErrNone},
		{plain(-4, 4, 1, 1, 0, 0), 4, api.OK},
		{plain(-4, 5, 1, 1, 0, 0), 0, api.ErrNone},
		{plain(-1, 1, 1, 1, 1, 6), 0, api.OK},
		{plain(-60, -60, 12, 12, 12, 6), 4, api.OK},
		{plain(-61+1, 60, 12, 12, 12, 6), 4, api.OK},
		{plain(-60, 60, 12, 11, 12, 6), 0, api.ErrNone},
		{thin(50, 50, 48), 2, api.OK},
		{thin(50, 50, 49), 0, api.ErrNone},
		{thin(50, 48, 48), 2, api.OK},
		{thin(50, 47, 48), 0, api.ErrNone}, // the root is too thin already, so that no stroke leaves a tongue that is not spoiled
		{worn, 0, api.ErrNone},
		{pitched(worn, -2, -2), 1, api.OK},
		{pitched(thin(50, 50, 60), 0, 0), 0, api.OK}, // nothing is done to a tongue that passes
		{but(func(j *api.Job) { j.Within = 0 }), 0, api.ErrNone},
		{api.Job{}, 0, api.OK},
	} {
		if n, e := reed.Guided(c.j); n != c.want || e != c.e {
			t.Error(i, n, e)
		}
	}
}

// P1.5: the stroke at the tip is preferred only if both are as good.
func TestNextOfBoth(t *testing.T) {
	free := func(least, most, up, down int, tip, root api.Range) api.Job {
		j := plain(least, most, up, down, 0, 0)
		j.Tip, j.Root, j.Least = tip, root, 40
		return j
	}
	thick, thin := to(50, 50), to(40, 40)
	for i, c := range []struct {
		j               api.Job
		stroke, strokes int
		e               api.Errno
	}{
		{free(-1, 1, 1, 1, thick, thick), 1, 3, api.OK},
		{free(-1, 1, 1, 1, thin, thick), 0, 0, api.ErrNone},
		{free(-3, -3, 5, 2, thick, thick), 1, 2, api.OK},
		{free(-3, -3, 5, 2, thin, thick), 0, 0, api.ErrNone},
		{free(1, 1, 2, 3, thick, thick), 1, 2, api.OK},
		{free(3, 3, 2, 3, thick, thick), 2, 1, api.OK},
		{free(0, 0, 2, 3, thin, thin), 0, 0, api.OK},
		{free(-1, 0, 1, 1, thick, thick), 1, 2, api.OK},
		{free(-2, -1, 1, 1, thick, thick), 1, 2, api.OK},
		{free(1, 2, 1, 1, thick, thick), 2, 2, api.OK},
		{free(0, 2, 1, 1, thick, thick), 2, 2, api.OK},
		{free(-4, -4, 1, 1, thick, thick), 1, 4, api.OK},
		{free(-5, -5, 1, 1, thick, thick), 0, 0, api.ErrNone},
	} {
		if s, n, e := reed.Next(c.j); s != c.stroke || n != c.strokes || e != c.e {
			t.Error(i, s, n, e)
		}
	}
}

// session is a tuner at work with a tongue that truly is so, who always makes the stroke of Next.
type session struct {
	t      *testing.T
	played int
}

// read reads the meter in all ways that the true pitch allows; left is how many strokes may still be made.
func (s *session) read(j api.Job, u truth, left int) {
	for reading := u.pitch - j.Meter; reading <= u.pitch+j.Meter; reading++ {
		pitch, e := reed.Hear(j, reading)
		if e != api.OK || u.pitch < pitch.Min || u.pitch > pitch.Max {
			s.t.Fatal(j, u, reading, pitch, e)
		}
		heard := j
		heard.Pitch = pitch
		s.stroke(heard, u, left)
	}
}

// stroke makes the next stroke, with all amounts that there can be, unless the tuner stops.
func (s *session) stroke(j api.Job, u truth, left int) {
	stroke, strokes, e := reed.Next(j)
	if e != api.OK || strokes > left {
		s.t.Fatal(j, u, left, stroke, strokes, e)
	}
	if strokes == 0 {
		if v, x := reed.Passes(j); v != api.Always || x != api.OK || !alwaysPasses(j, u.pitch) {
			s.t.Fatal(j, u, v, x)
		}
		s.played++
		return
	}
	tongue, e := reed.After(j, []int{stroke})
	if e != api.OK {
		s.t.Fatal(j, stroke, e)
	}
	for next := range after(j, u, stroke) {
		if next.spoiled(j.Least) {
			s.t.Fatal("spoiled", j, u, stroke, next)
		}
		filed := j
		filed.Tongue = tongue
		s.read(filed, next, left-1)
	}
}

// P1.8, P1.12: who makes the strokes of Next stops in time, in every truth and with all readings, and never spoils the tongue.
func TestSessions(t *testing.T) {
	d := dice(6)
	played, long := 0, 0
	for range 2000 {
		j := d.job(1)
		n, e := reed.Guided(j)
		if e != api.OK || n < 2 {
			continue
		}
		if n > 2 {
			long++
		}
		s := session{t: t}
		for u := range truths(api.Job{Tongue: j.Tongue}, nil) {
			s.read(j, u, n)
		}
		played += s.played
	}
	if played < 1000 || long < 5 {
		t.Error("too few sessions", played, long)
	}
}

// P1.6: the best of several jobs.
func TestBlank(t *testing.T) {
	one, two, four, hopeless := plain(1, 1, 1, 1, 0, 0), plain(2, 2, 1, 1, 0, 0), plain(4, 4, 1, 1, 0, 0), plain(5, 5, 1, 1, 0, 0)
	invalid := plain(1, 0, 1, 1, 0, 0)
	for i, c := range []struct {
		jobs            []api.Job
		number, strokes int
		e               api.Errno
	}{
		{nil, 0, 0, api.ErrFew},
		{[]api.Job{}, 0, 0, api.ErrFew},
		{[]api.Job{one}, 0, 1, api.OK},
		{[]api.Job{four}, 0, 4, api.OK},
		{[]api.Job{two, one, one}, 1, 1, api.OK},
		{[]api.Job{one, two, one}, 0, 1, api.OK},
		{[]api.Job{four, hopeless, two, hopeless, one, two}, 4, 1, api.OK},
		{[]api.Job{hopeless, four}, 1, 4, api.OK},
		{[]api.Job{four, hopeless}, 0, 4, api.OK},
		{[]api.Job{hopeless, hopeless}, 0, 0, api.ErrNone},
		{slices.Repeat([]api.Job{four}, 6), 0, 4, api.OK},
		{slices.Repeat([]api.Job{four}, 7), 0, 0, api.ErrMany},
		{slices.Repeat([]api.Job{invalid}, 7), 0, 0, api.ErrMany},
		{[]api.Job{one, two, invalid}, 0, 0, api.ErrOrder},
		{[]api.Job{hopeless, invalid}, 0, 0, api.ErrOrder},
		{[]api.Job{{Meter: 7}, invalid}, 0, 0, api.ErrValue},
		{[]api.Job{invalid, {Meter: 7}}, 0, 0, api.ErrOrder},
		{[]api.Job{one, {Shifts: make([]api.Range, 5)}, invalid}, 0, 0, api.ErrMany},
	} {
		if k, n, e := reed.Blank(c.jobs); k != c.number || n != c.strokes || e != c.e {
			t.Error(i, k, n, e)
		}
	}
}

// P1.6: the jobs are compared by what Guided says, for a tuner who begins by reading the meter.
func TestBlankIsGuided(t *testing.T) {
	read := plain(-2, 2, 1, 1, 0, 0) // 2 strokes after a reading, 4 without one
	if k, n, e := reed.Blank([]api.Job{plain(3, 3, 1, 1, 0, 0), read}); k != 1 || n != 2 || e != api.OK {
		t.Error(k, n, e)
	}
	d := dice(15)
	for range 500 {
		var jobs []api.Job
		number, strokes := 0, none
		for i := range d.roll(1, api.MaxBlanks) {
			j := d.job(2)
			jobs = append(jobs, j)
			if n := guidedOf(t, j); n < strokes {
				number, strokes = i, n
			}
		}
		k, n, e := reed.Blank(jobs)
		if count(t, n, e) != strokes || k != number {
			t.Fatal(jobs, k, n, e, number, strokes)
		}
	}
}
