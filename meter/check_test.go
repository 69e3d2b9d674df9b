package meter_test

import (
	"math"
	"slices"
	"testing"

	"musette/api"
	"musette/meter"
)

// three returns an ear with three tongues and a reading of each kind.
func three() api.Ear {
	return heard(plain(to(500, 505), to(500, 505), to(500, 520)), count(2, 20, 100, 101), beat(2, 0, 20, 0, 1), higher(2, 1))
}

// P2.1: the slack has its bounds.
func TestCheckSlack(t *testing.T) {
	for _, c := range []struct {
		slack int
		want  api.Errno
	}{{0, api.OK}, {1, api.OK}, {3, api.OK}, {4, api.ErrValue}, {-1, api.ErrValue}, {math.MaxInt, api.ErrValue}, {math.MinInt, api.ErrValue}} {
		e := three()
		e.Slack = c.slack
		if x := meter.Check(e); x != c.want {
			t.Error(c.slack, x)
		}
	}
}

// P2.1: there are one to three tongues, and at most six readings.
func TestCheckNumbers(t *testing.T) {
	for number, want := range []api.Errno{api.ErrFew, api.OK, api.OK, api.OK, api.ErrMany, api.ErrMany} {
		if x := meter.Check(plain(slices.Repeat([]api.Range{to(1, 1)}, number)...)); x != want {
			t.Error(number, x)
		}
	}
	for number, want := range []api.Errno{api.OK, api.OK, api.OK, api.OK, api.OK, api.OK, api.OK, api.ErrMany, api.ErrMany} {
		if x := meter.Check(heard(three(), slices.Repeat([]api.Reading{higher(0, 1)}, number)...)); x != want {
			t.Error(number, x)
		}
	}
}

// P2.1: the range of each tongue has its bounds, its order and its width.
func TestCheckTones(t *testing.T) {
	for tongue := range 3 {
		for _, c := range []struct {
			r    api.Range
			want api.Errno
		}{
			{to(1, 1), api.OK},
			{to(1, 21), api.OK},
			{to(100000, 100000), api.OK},
			{to(99980, 100000), api.OK},
			{to(99979, 100000), api.ErrValue},
			{to(1, 22), api.ErrValue},
			{to(0, 1), api.ErrValue},
			{to(0, 0), api.ErrValue},
			{to(99999, 100001), api.ErrValue},
			{to(100001, 100001), api.ErrValue},
			{to(6, 5), api.ErrOrder},
			{to(100000, 1), api.ErrOrder},
			{to(100001, 1), api.ErrValue},
			{to(1, 0), api.ErrValue},
			{to(1, 100000), api.ErrValue},
			{to(math.MinInt, math.MaxInt), api.ErrValue},
			{to(math.MaxInt, math.MinInt), api.ErrValue},
		} {
			e := heard(three())
			e.Tones[tongue] = c.r
			if x := meter.Check(e); x != c.want {
				t.Error(tongue, c.r, x)
			}
		}
	}
}

// readings are readings of three tongues, each with its error.
func readings() []struct {
	r    api.Reading
	want api.Errno
} {
	with := func(r api.Reading, change func(r *api.Reading)) api.Reading {
		change(&r)
		return r
	}
	c, b, h := count(2, 20, 1, 2), beat(1, 2, 20, 1, 2), higher(2, 0)
	all := []struct {
		r    api.Reading
		want api.Errno
	}{
		{c, api.OK}, {b, api.OK}, {h, api.OK},
		{count(0, 1, 0, 0), api.OK}, {count(2, 20, 25000, 25000), api.OK}, {count(1, 7, 0, 25000), api.OK},
		{beat(0, 2, 1, 0, 0), api.OK}, {beat(2, 0, 20, 25000, 25000), api.OK}, {higher(0, 2), api.OK},
		{api.Reading{}, api.ErrKind}, {api.Reading{Kind: 4, A: 9, B: 9, Seconds: 99}, api.ErrKind}, {api.Reading{Kind: -1}, api.ErrKind}, {api.Reading{Kind: math.MaxInt}, api.ErrKind},
		{with(c, func(r *api.Reading) { r.B = 1 }), api.ErrValue},
		{with(c, func(r *api.Reading) { r.B = -1 }), api.ErrValue},
		{with(c, func(r *api.Reading) { r.B = 3 }), api.ErrValue},
		{with(c, func(r *api.Reading) { r.A, r.B = 0, 0 }), api.OK},
		{with(c, func(r *api.Reading) { r.B, r.Shown = 1, to(2, 1) }), api.ErrValue},
		{with(b, func(r *api.Reading) { r.B = 1 }), api.ErrTwice},
		{with(b, func(r *api.Reading) { r.A, r.B = 0, 0 }), api.ErrTwice},
		{with(b, func(r *api.Reading) { r.A, r.B = 3, 3 }), api.ErrUnknown},
		{with(h, func(r *api.Reading) { r.B = 2 }), api.ErrTwice},
		{with(h, func(r *api.Reading) { r.Seconds = 1 }), api.ErrValue},
		{with(h, func(r *api.Reading) { r.Seconds = -1 }), api.ErrValue},
		{with(h, func(r *api.Reading) { r.Shown = to(0, 1) }), api.ErrValue},
		{with(h, func(r *api.Reading) { r.Shown = to(-1, 0) }), api.ErrValue},
		{with(h, func(r *api.Reading) { r.Shown = to(1, 0) }), api.ErrValue},
	}
	add := func(r api.Reading, want api.Errno) {
		all = append(all, struct {
			r    api.Reading
			want api.Errno
		}{r, want})
	}
	for _, wrong := range []int{-1, 3, math.MinInt, math.MaxInt} {
		for _, r := range []api.Reading{c, b, h} {
			add(with(r, func(r *api.Reading) { r.A, r.Seconds = wrong, -1 }), api.ErrUnknown)
		}
		for _, r := range []api.Reading{b, h} {
			add(with(r, func(r *api.Reading) { r.B, r.Seconds = wrong, -1 }), api.ErrUnknown)
		}
	}
	for _, r := range []api.Reading{c, b} {
		for _, seconds := range []int{0, -1, 21, math.MinInt, math.MaxInt} {
			add(with(r, func(r *api.Reading) { r.Seconds, r.Shown = seconds, to(2, 1) }), api.ErrValue)
		}
		for _, shown := range []api.Range{to(-1, 5), to(5, -1), to(25001, 1), to(1, 25001), to(math.MinInt, math.MaxInt), to(math.MaxInt, math.MinInt)} {
			add(with(r, func(r *api.Reading) { r.Shown = shown }), api.ErrValue)
		}
		add(with(r, func(r *api.Reading) { r.Shown = to(2, 1) }), api.ErrOrder)
		add(with(r, func(r *api.Reading) { r.Shown = to(25000, 0) }), api.ErrOrder)
	}
	return all
}

// P2.1, P2.4: a reading has its error, whichever one it is, and as one that is not made yet, too.
func TestCheckReadings(t *testing.T) {
	for _, c := range readings() {
		for place := range 3 {
			e := three()
			e.Readings[place] = c.r
			if x := meter.Check(e); x != c.want {
				t.Error(place, c.r, x)
			}
		}
		e := heard(three())
		n, x := meter.Worst(e, c.r)
		if x != c.want || x != api.OK && n != 0 {
			t.Error(c.r, n, x)
		}
		next, x := meter.With(e, c.r)
		if c.want != api.OK && x != c.want || x != api.OK && !isZero(next) {
			t.Error(c.r, next, x)
		}
	}
}

// P2.1: the first error counts, in the order in which the chapter names them.
func TestCheckOrder(t *testing.T) {
	wrong := []struct {
		name string
		make func(e *api.Ear)
		want api.Errno
	}{
		{"slack", func(e *api.Ear) { e.Slack = 4 }, api.ErrValue},
		{"tongues", func(e *api.Ear) { e.Tones = append(e.Tones, to(1, 0)) }, api.ErrMany},
		{"first order", func(e *api.Ear) { e.Tones[0] = to(7, 6) }, api.ErrOrder},
		{"second value", func(e *api.Ear) { e.Tones[1] = to(0, 1) }, api.ErrValue},
		{"third order", func(e *api.Ear) { e.Tones[2] = to(7, 6) }, api.ErrOrder},
		{"readings", func(e *api.Ear) { e.Readings = append(e.Readings, make([]api.Reading, 4)...) }, api.ErrMany},
		{"first reading", func(e *api.Ear) { e.Readings[0].Kind = 0 }, api.ErrKind},
		{"second reading", func(e *api.Ear) { e.Readings[1].B = 3 }, api.ErrUnknown},
		{"third reading", func(e *api.Ear) { e.Readings[2].B = 2 }, api.ErrTwice},
	}
	for i, one := range wrong {
		for _, other := range wrong[i:] {
			e := three()
			other.make(&e)
			one.make(&e)
			if x := meter.Check(e); x != one.want {
				t.Error(one.name, other.name, x)
			}
		}
	}
	if x := meter.Check(api.Ear{Slack: -1}); x != api.ErrValue {
		t.Error(x)
	}
	if x := meter.Check(api.Ear{Readings: make([]api.Reading, 7)}); x != api.ErrFew {
		t.Error(x)
	}
}

// call is a call of a function of the package: whether its other results are zero values, and its error.
type call struct {
	name string
	of   func(e api.Ear) (bool, api.Errno)
}

// calls returns calls of all functions that take an ear. The second ones have arguments that are wrong, and the error that is due to them.
func calls() (right []call, wrong []call, due []api.Errno) {
	calls := func(tongue, other, seconds, width int, want api.Range, r api.Reading, gates []int) []call {
		return []call{
			{"Truths", func(e api.Ear) (bool, api.Errno) { n, x := meter.Truths(e); return n == 0, x }},
			{"Tones", func(e api.Ear) (bool, api.Errno) { l, x := meter.Tones(e); return len(l) == 0, x }},
			{"Values", func(e api.Ear) (bool, api.Errno) { l, x := meter.Values(e, tongue); return len(l) == 0, x }},
			{"Within", func(e api.Ear) (bool, api.Errno) { v, x := meter.Within(e, tongue, want); return v == 0, x }},
			{"Higher", func(e api.Ear) (bool, api.Errno) { v, x := meter.Higher(e, tongue, other); return v == 0, x }},
			{"Beats", func(e api.Ear) (bool, api.Errno) {
				r, x := meter.Beats(e, tongue, other, seconds)
				return r == to(0, 0), x
			}},
			{"False", func(e api.Ear) (bool, api.Errno) { l, x := meter.False(e); return len(l) == 0, x }},
			{"Doubted", func(e api.Ear) (bool, api.Errno) { l, x := meter.Doubted(e); return len(l) == 0, x }},
			{"With", func(e api.Ear) (bool, api.Errno) { next, x := meter.With(e, r); return isZero(next), x }},
			{"Worst", func(e api.Ear) (bool, api.Errno) { n, x := meter.Worst(e, r); return n == 0, x }},
			{"Best", func(e api.Ear) (bool, api.Errno) {
				r, n, x := meter.Best(e, gates)
				return r == api.Reading{} && n == 0, x
			}},
			{"Gate", func(e api.Ear) (bool, api.Errno) { n, x := meter.Gate(e, tongue, width); return n == 0, x }},
			{"Needs", func(e api.Ear) (bool, api.Errno) { n, x := meter.Needs(e, tongue, want, gates); return n == 0, x }},
			{"Write", func(e api.Ear) (bool, api.Errno) { s, x := meter.Write(e); return s == "", x }},
		}
	}
	right = calls(0, 1, 5, 0, to(1, 2), higher(0, 1), []int{1})
	wrong = calls(9, 9, 0, -1, to(2, 1), api.Reading{}, nil)
	due = []api.Errno{api.OK, api.OK, api.ErrUnknown, api.ErrUnknown, api.ErrUnknown, api.ErrUnknown, api.OK, api.OK, api.ErrKind, api.ErrKind, api.ErrFew, api.ErrUnknown, api.ErrUnknown, api.OK}
	return right, wrong, due
}

// P2.1 to P2.6: each function returns the error of the ear ahead of all others, with zero values.
func TestErrorsOfEars(t *testing.T) {
	right, wrong, due := calls()
	for _, c := range []struct {
		e    api.Ear
		want api.Errno
	}{
		{api.Ear{Slack: 4}, api.ErrValue},
		{api.Ear{}, api.ErrFew},
		{plain(to(2, 1)), api.ErrOrder},
		{plain(make([]api.Range, 4)...), api.ErrMany},
		{heard(mute(), higher(0, 2)), api.ErrUnknown},
		{heard(mute(), higher(0, 0)), api.ErrTwice},
		{heard(mute(), api.Reading{Kind: 9}), api.ErrKind},
	} {
		for _, f := range slices.Concat(right, wrong) {
			if zero, x := f.of(c.e); !zero || x != c.want {
				t.Error(f.name, c.e, zero, x)
			}
		}
	}
	for _, e := range []api.Ear{earE(), earF()} {
		for i, f := range wrong {
			if zero, x := f.of(e); due[i] != api.OK && (!zero || x != due[i]) {
				t.Error(f.name, zero, x)
			}
		}
	}
}

// P2.1 to P2.5: without a truth there are errors, but for those functions that tell of it.
func TestErrorsWithoutTruth(t *testing.T) {
	right, _, _ := calls()
	for _, f := range right {
		zero, x := f.of(earF())
		want := api.ErrAgainst
		switch f.name {
		case "Truths", "False", "Doubted", "Write":
			want = api.OK
		}
		if x != want || x != api.OK && !zero {
			t.Error(f.name, zero, x)
		}
	}
}

// P2.1 to P2.5: the errors of arguments, in their order; they come ahead of ErrAgainst.
func TestErrorsOfArguments(t *testing.T) {
	for _, e := range []api.Ear{earE(), earF()} {
		place := 0
		due := func(want api.Errno) func(n int, x api.Errno) {
			return func(n int, x api.Errno) {
				t.Helper()
				if place++; n != 0 || x != want {
					t.Error(place, n, x)
				}
			}
		}
		sum := func(r api.Range, x api.Errno) (int, api.Errno) { return r.Min | r.Max, x }
		length := func(list []int, x api.Errno) (int, api.Errno) { return len(list), x }
		for _, wrong := range []int{-1, 2, 3, math.MinInt, math.MaxInt} {
			due(api.ErrUnknown)(length(meter.Values(e, wrong)))
			due(api.ErrUnknown)(meter.Within(e, wrong, to(2, 1)))
			due(api.ErrUnknown)(meter.Higher(e, 0, wrong))
			due(api.ErrUnknown)(meter.Higher(e, wrong, wrong))
			due(api.ErrUnknown)(sum(meter.Beats(e, wrong, 0, 0)))
			due(api.ErrUnknown)(sum(meter.Beats(e, 1, wrong, 0)))
			due(api.ErrUnknown)(meter.Gate(e, wrong, -1))
			due(api.ErrUnknown)(meter.Needs(e, wrong, to(2, 1), nil))
		}
		for _, seconds := range []int{0, -1, 21, math.MinInt, math.MaxInt} {
			due(api.ErrTwice)(sum(meter.Beats(e, 1, 1, seconds)))
			due(api.ErrValue)(sum(meter.Beats(e, 1, 0, seconds)))
		}
		due(api.ErrTwice)(meter.Higher(e, 1, 1))
		due(api.ErrOrder)(meter.Within(e, 1, to(2, 1)))
		due(api.ErrOrder)(meter.Needs(e, 1, to(math.MaxInt, math.MinInt), nil))
		due(api.ErrValue)(meter.Gate(e, 1, -1))
		due(api.ErrValue)(meter.Gate(e, 0, math.MinInt))
	}
}

// P2.4, P2.5: gates have their errors, in their order, in Best and in Needs.
func TestErrorsOfGates(t *testing.T) {
	for _, c := range []struct {
		gates []int
		want  api.Errno
	}{
		{nil, api.ErrFew}, {[]int{}, api.ErrFew},
		{[]int{1, 2, 3, 4}, api.ErrMany}, {[]int{0, 0, 0, 0}, api.ErrMany},
		{[]int{0}, api.ErrValue}, {[]int{21}, api.ErrValue}, {[]int{-1}, api.ErrValue}, {[]int{math.MaxInt}, api.ErrValue},
		{[]int{1, 21}, api.ErrValue}, {[]int{5, 0}, api.ErrValue}, {[]int{3, 3}, api.ErrOrder}, {[]int{3, 2}, api.ErrOrder},
		{[]int{1, 3, 2}, api.ErrOrder}, {[]int{3, 2, 21}, api.ErrOrder}, {[]int{21, 2, 1}, api.ErrValue},
		{[]int{1}, api.OK}, {[]int{20}, api.OK}, {[]int{1, 20}, api.OK}, {[]int{1, 2, 3}, api.OK}, {[]int{18, 19, 20}, api.OK},
	} {
		_, _, a := meter.Best(earE(), c.gates)
		_, b := meter.Needs(earE(), 0, to(44000, 44005), c.gates)
		if a != c.want || b != c.want {
			t.Error(c.gates, a, b)
		}
		want := c.want
		if want == api.OK {
			want = api.ErrAgainst
		}
		_, _, a = meter.Best(earF(), c.gates)
		_, b = meter.Needs(earF(), 0, to(1, 2), c.gates)
		if a != want || b != want {
			t.Error(c.gates, a, b)
		}
	}
}

// P2.4: six readings are enough, even if one more would contradict them; the error of a reading comes ahead of that.
func TestErrorsOfWith(t *testing.T) {
	full := heard(mute(), slices.Repeat([]api.Reading{higher(1, 0)}, 6)...)
	_, a := meter.With(full, higher(1, 0))
	_, b := meter.With(full, higher(0, 1))
	_, c := meter.With(full, higher(0, 0))
	_, d := meter.With(earE(), higher(0, 1))
	_, e := meter.With(earF(), higher(1, 0))
	if a != api.ErrMany || b != api.ErrMany || c != api.ErrTwice || d != api.ErrAgainst || e != api.ErrAgainst {
		t.Error(a, b, c, d, e)
	}
	five := heard(mute(), full.Readings[:5]...)
	if next, x := meter.With(five, higher(1, 0)); !equal(next, full) || x != api.OK {
		t.Error(next, x)
	}
}
