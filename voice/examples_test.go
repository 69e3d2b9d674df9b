package voice_test

import (
	"slices"
	"testing"

	"musette/api"
	"musette/voice"
)

// P5.1: the examples of Check, Due, Beat and Pairs.
func TestExamplesPairs(t *testing.T) {
	for i, c := range []struct {
		b    api.Box
		want api.Errno
	}{
		{boxB(), api.OK},
		{but(func(b *api.Box) { b.Press = 4 }), api.ErrValue},
		{but(func(b *api.Box) { b.Note = 11 }), api.ErrValue},
		{but(func(b *api.Box) { b.Lows[0].Tone = to(1, -1) }), api.ErrOrder},
		{but(func(b *api.Box) { b.Least = 101 }), api.ErrValue},
	} {
		if x := voice.Check(c.b); x != c.want {
			t.Error(i, x)
		}
	}
	for _, c := range []struct {
		note, want int
		x          api.Errno
	}{{3, 14, api.OK}, {10, 0, api.OK}, {12, 0, api.ErrValue}} {
		if n, x := voice.Due(lawB(), c.note); n != c.want || x != c.x {
			t.Error(c.note, n, x)
		}
	}
	for i, c := range []struct {
		low, high int
		want      []api.Range
	}{
		{0, 0, []api.Range{to(13, 16), to(13, 17), to(13, 18)}},
		{1, 0, []api.Range{to(9, 10), to(8, 10), to(7, 10)}},
		{1, 1, []api.Range{to(15, 15), to(14, 14), to(13, 13)}},
	} {
		if l, x := voice.Beat(boxB(), c.low, c.high); !slices.Equal(l, c.want) || x != api.OK {
			t.Error(i, l, x)
		}
	}
	want := [][]int{{api.Always, api.Never, api.Never}, {api.Either, api.Always, api.Never}}
	table, x := voice.Pairs(boxB())
	if !slices.EqualFunc(table, want, slices.Equal[[]int]) || x != api.OK {
		t.Error(table, x)
	}
	for low, verdicts := range want {
		for high, verdict := range verdicts {
			if v, x := voice.Keeps(boxB(), low, high); v != verdict || x != api.OK {
				t.Error(low, high, v, x)
			}
		}
	}
}

// P5.2: the examples of Match, Short and Most.
func TestExamplesMatch(t *testing.T) {
	for i, c := range []struct {
		b            api.Box
		match, short []int
		most         api.Range
		x            api.Errno
	}{
		{boxB(), []int{0, 1}, nil, to(2, 2), api.ErrNone},
		{boxC(), []int{0, -1}, []int{1}, to(1, 1), api.OK},
	} {
		match, x := voice.Match(c.b)
		short, y := voice.Short(c.b)
		most, z := voice.Most(c.b)
		if !slices.Equal(match, c.match) || !slices.Equal(short, c.short) || most != c.most || x != api.OK || y != c.x || z != api.OK {
			t.Error(i, match, short, most, x, y, z)
		}
	}
}

// P5.3: the examples of Job, Strokes and Filed.
func TestExamplesJobs(t *testing.T) {
	b := boxB()
	want := api.Job{Tongue: api.Tongue{Pitch: to(16, 16), Tip: b.Tip, Root: b.Root}, File: b.File, Shifts: []api.Range{to(-5, -5), to(-6, -6), to(-7, -7)}, Within: 4, Meter: 1}
	if j, x := voice.Job(b, 1, 2); !sameJob(j, want) || x != api.OK {
		t.Error(j, x)
	}
	for i, c := range []struct{ low, high, want int }{{0, 1, 2}, {0, 0, 0}, {1, 1, 0}} {
		if n, x := voice.Strokes(b, c.low, c.high); n != c.want || x != api.OK {
			t.Error(i, n, x)
		}
	}
	for i, c := range []struct {
		b    api.Box
		want int
	}{{b, 0}, {boxC(), 4}} {
		if l, n, x := voice.Filed(c.b); !slices.Equal(l, []int{0, 1}) || n != c.want || x != api.OK {
			t.Error(i, l, n, x)
		}
	}
}

// P5.4: the examples of Tremolo, Span and Bad.
func TestExamplesScale(t *testing.T) {
	for i, c := range []struct {
		register        []int
		want            []int
		span, note, row int
		x               api.Errno
	}{
		{[]int{0, 1}, []int{api.Always, api.Either}, 5, 1, 0, api.OK},
		{[]int{1, 2}, []int{api.Never, api.Always}, 10, 0, 1, api.OK},
		{[]int{0, 1, 2}, []int{api.Never, api.Either}, 10, 0, 1, api.OK},
		{[]int{0}, []int{api.Always, api.Always}, 0, 0, 0, api.ErrNone},
	} {
		l, x := voice.Tremolo(scaleS(), c.register)
		span, y := voice.Span(scaleS(), c.register)
		note, row, z := voice.Bad(scaleS(), c.register)
		if !slices.Equal(l, c.want) || span != c.span || note != c.note || row != c.row || x != api.OK || y != api.OK || z != c.x {
			t.Error(i, l, span, note, row, x, y, z)
		}
	}
}

// P5.5: the example of Write.
func TestExamplesText(t *testing.T) {
	want := "law,20,-2,4,2,3\nlow,-1..1,0..0\nlow,5..5,1..1\nfile,3..4,2..3,1..2,1..1,20,30..32,40..41,1\n"
	if s, x := voice.Write(with(boxB().Lows, nil)); s != want || x != api.OK {
		t.Errorf("%q %v", s, x)
	}
}
