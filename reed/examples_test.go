package reed_test

import (
	"slices"
	"testing"

	"musette/api"
	"musette/reed"
)

// The examples of the chapter, row by row.

func TestExamplesOfCheck(t *testing.T) {
	for i, c := range []struct {
		j    api.Job
		want api.Errno
	}{
		{jobJ(), api.OK},
		{but(func(j *api.Job) { j.Tip = to(32, 30) }), api.ErrOrder},
		{but(func(j *api.Job) { j.Least = 101 }), api.ErrValue},
		{but(func(j *api.Job) { j.Shifts = make([]api.Range, 5) }), api.ErrMany},
		{but(func(j *api.Job) { j.Meter = 7 }), api.ErrValue},
	} {
		if e := reed.Check(c.j); e != c.want {
			t.Error(i, e)
		}
	}
}

func TestExamplesOfWindow(t *testing.T) {
	for i, c := range []struct {
		j    api.Job
		want api.Range
		e    api.Errno
	}{
		{jobJ(), to(-3, 2), api.OK},
		{but(func(j *api.Job) { j.Shifts = nil }), to(-5, 5), api.OK},
		{but(func(j *api.Job) { j.Shifts = append(j.Shifts, to(-6, 5)) }), to(0, 0), api.ErrNone},
	} {
		if w, e := reed.Window(c.j); w != c.want || e != c.e {
			t.Error(i, w, e)
		}
	}
	for i, c := range []struct {
		j    api.Job
		want int
	}{{jobJ(), api.Never}, {pitched(jobJ(), -6, -6), api.Either}, {pitched(jobJ(), -3, 2), api.Always}} {
		if v, e := reed.Passes(c.j); v != c.want || e != api.OK {
			t.Error(i, v, e)
		}
	}
}

func TestExamplesOfHear(t *testing.T) {
	for i, c := range []struct {
		reading int
		want    api.Range
		e       api.Errno
	}{{-10, to(-11, -9), api.OK}, {-13, to(-12, -12), api.OK}, {-14, to(0, 0), api.ErrAgainst}} {
		if r, e := reed.Hear(jobJ(), c.reading); r != c.want || e != c.e {
			t.Error(i, r, e)
		}
	}
}

func TestExamplesOfStrokes(t *testing.T) {
	thick := but(func(j *api.Job) { j.Least = 33 })
	for i, c := range []struct {
		strokes []int
		want    api.Tongue
	}{
		{[]int{1, 1}, api.Tongue{Pitch: to(-6, 0), Tip: to(26, 30), Root: to(40, 41)}},
		{[]int{1, 2}, api.Tongue{Pitch: to(-12, -6), Tip: to(28, 31), Root: to(39, 40)}},
	} {
		if x, e := reed.After(jobJ(), c.strokes); x != c.want || e != api.OK {
			t.Error(i, x, e)
		}
	}
	for i, c := range []struct {
		of      func(api.Job, []int) (int, api.Errno)
		j       api.Job
		strokes []int
		want    int
	}{
		{reed.Worst, jobJ(), []int{1, 1}, 8},
		{reed.Worst, jobJ(), nil, 14},
		{reed.Spoiled, jobJ(), []int{1, 1, 1, 1, 1}, api.Never},
		{reed.Spoiled, jobJ(), []int{1, 1, 1, 1, 1, 1}, api.Either},
		{reed.Spoiled, thick, []int{1}, api.Always},
		{reed.Fine, jobJ(), []int{1, 1}, api.Either},
		{reed.Fine, jobJ(), []int{1, 1, 1}, api.Either},
		{reed.Fine, jobJ(), nil, api.Never},
		{reed.Fine, jobK(), []int{1, 1}, api.Always},
	} {
		if n, e := c.of(c.j, c.strokes); n != c.want || e != api.OK {
			t.Error(i, n, e)
		}
	}
}

func TestExamplesOfShortest(t *testing.T) {
	for i, c := range []struct {
		j    api.Job
		want []int
		e    api.Errno
	}{{jobJ(), nil, api.ErrNone}, {jobK(), []int{1, 1}, api.OK}, {pitched(jobJ(), -3, 2), nil, api.OK}} {
		if l, e := reed.Shortest(c.j); !slices.Equal(l, c.want) || e != c.e {
			t.Error(i, l, e)
		}
	}
}

func TestExamplesOfGames(t *testing.T) {
	stiff := but(func(j *api.Job) { j.Least = 29 })
	for i, c := range []struct {
		j    api.Job
		want int
		e    api.Errno
	}{{jobJ(), 3, api.OK}, {jobK(), 2, api.OK}, {stiff, 0, api.ErrNone}} {
		if n, e := reed.Guided(c.j); n != c.want || e != c.e {
			t.Error(i, n, e)
		}
	}
	for i, c := range []struct {
		j               api.Job
		stroke, strokes int
	}{{jobJ(), 1, 3}, {pitched(jobJ(), 4, 6), 2, 2}, {pitched(jobJ(), -3, -1), 0, 0}} {
		if s, n, e := reed.Next(c.j); s != c.stroke || n != c.strokes || e != api.OK {
			t.Error(i, s, n, e)
		}
	}
	if k, n, e := reed.Blank([]api.Job{jobJ(), jobK(), jobJ()}); k != 1 || n != 2 || e != api.OK {
		t.Error(k, n, e)
	}
	if k, n, e := reed.Blank([]api.Job{stiff}); k != 0 || n != 0 || e != api.ErrNone {
		t.Error(k, n, e)
	}
}

func TestExampleOfWrite(t *testing.T) {
	j := jobK()
	j.Shifts = j.Shifts[:1]
	const want = "tongue -9:-9 30:32 40:41\nfile 3:4 2:3 1:2 1:1 20\nshift -2:1\npass 5 1\n"
	if s, e := reed.Write(j); s != want || e != api.OK {
		t.Error(s, e)
	}
}
