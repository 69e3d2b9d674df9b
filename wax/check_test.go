package wax_test

import (
	"math"
	"slices"
	"testing"

	"musette/api"
	"musette/wax"
)

// extremes are numbers within bounds, at their ends, and beyond them.
var extremes = []int{math.MinInt, math.MinInt + 1, -52, -51, -50, -49, -48, -47, -2, -1, 0, 1, 2, 3, 4, 5, 6, 7, 8, 9, 10, 97, 98, 99, 100, 101, 102, math.MaxInt - 1, math.MaxInt}

// ordered returns the error of a range whose numbers have bounds.
func ordered(r api.Range, least, most int) api.Errno {
	switch {
	case r.Min < least || r.Min > most || r.Max < least || r.Max > most:
		return api.ErrValue
	case r.Min > r.Max:
		return api.ErrOrder
	}
	return api.OK
}

// weathered returns the error of a weather range.
func weathered(r api.Range) api.Errno {
	e := ordered(r, -50, 100)
	if e == api.OK && r.Max > r.Min+2 {
		return api.ErrValue
	}
	return e
}

// P6.1: both numbers of each range have their bounds, which come ahead of their order, and weather is not known too badly.
func TestCheckRanges(t *testing.T) {
	for _, least := range extremes {
		for _, most := range extremes {
			r := to(least, most)
			for i := range 2 {
				for name, c := range map[string]struct {
					change func(s *api.Season)
					want   api.Errno
				}{
					"heat":  {func(s *api.Season) { s.Heats[2*i] = r }, weathered(r)},
					"damp":  {func(s *api.Season) { s.Damps[2*i] = r }, weathered(r)},
					"high":  {func(s *api.Season) { s.Joints[i].High = r }, weathered(r)},
					"low":   {func(s *api.Season) { s.Joints[i].Low = r }, weathered(r)},
					"weeks": {func(s *api.Season) { s.Joints[i].Weeks = r }, ordered(r, 1, 6)},
					"life":  {func(s *api.Season) { s.Joints[i].Life = r }, ordered(r, 0, 9)},
				} {
					if e := wax.Check(but(c.change)); e != c.want {
						t.Error(name, i, r, e)
					}
				}
			}
		}
	}
}

// P6.1: there are one to six weeks, as many heats as damps, at most three joints and at most five reports.
func TestCheckMany(t *testing.T) {
	many := func(n, least, most int) api.Errno {
		switch {
		case n < least:
			return api.ErrFew
		case n > most:
			return api.ErrMany
		}
		return api.OK
	}
	for n := range 12 {
		for m := range 12 {
			want := many(n, 1, 6)
			if want == api.OK {
				want = many(m, n, n)
			}
			if e := wax.Check(api.Season{Heats: make([]api.Range, n), Damps: make([]api.Range, m)}); e != want {
				t.Error(n, m, e)
			}
		}
		if e := wax.Check(known(slices.Repeat([]api.Joint{waxen(1, 0, 1, 0)}, n), 1)); e != many(n, 0, 3) {
			t.Error("joints", n, e)
		}
		if e := wax.Check(told(slices.Repeat([]api.Seen{seen(0, 0, true)}, n)...)); e != many(n, 0, 5) {
			t.Error("reports", n, e)
		}
	}
}

// P6.1: joints are of wax or of leather; reports are about joints and weeks of the season.
func TestCheckNumbers(t *testing.T) {
	for _, n := range extremes {
		want := api.ErrKind
		if n == 1 || n == 2 {
			want = api.OK
		}
		for i := range 2 {
			if e := wax.Check(but(func(s *api.Season) { s.Joints[i].Kind = n })); e != want {
				t.Error("kind", i, n, e)
			}
		}
		want = api.ErrUnknown
		if n == 0 || n == 1 {
			want = api.OK
		}
		if e := wax.Check(told(seen(n, 0, true))); e != want {
			t.Error("joint", n, e)
		}
		want = api.ErrValue
		if 0 <= n && n < 3 {
			want = api.OK
		}
		if e := wax.Check(told(seen(0, 0, false), seen(1, n, true))); e != want {
			t.Error("week", n, e)
		}
	}
	lonely := known(nil, 1)
	lonely.Reports = []api.Seen{seen(0, 0, true)}
	if e := wax.Check(lonely); e != api.ErrUnknown {
		t.Error(e)
	}
}

// change is a change of a season, and the error that is due to it.
type change struct {
	name string
	make func(*api.Season)
	want api.Errno
}

// rangeChanges returns the changes of a range that make its errors; the last one is about its width, which only weather has.
func rangeChanges(name string, field func(s *api.Season) *api.Range) []change {
	put := func(r api.Range) func(s *api.Season) {
		return func(s *api.Season) { *field(s) = r }
	}
	return []change{
		{"value of " + name, put(to(-51, -52)), api.ErrValue},
		{"order of " + name, put(to(5, 1)), api.ErrOrder},
		{"width of " + name, put(to(5, 8)), api.ErrValue},
	}
}

// P6.1, R1: of two errors of a season the one that the chapter names first is returned.
func TestCheckOrder(t *testing.T) {
	changes := []change{
		{"few heats", func(s *api.Season) { s.Heats = nil }, api.ErrFew},
		{"many heats", func(s *api.Season) { s.Heats = append(s.Heats, make([]api.Range, 4)...) }, api.ErrMany},
		{"few damps", func(s *api.Season) { s.Damps = s.Damps[:2] }, api.ErrFew},
		{"many damps", func(s *api.Season) { s.Damps = append(s.Damps, make([]api.Range, 4)...) }, api.ErrMany},
	}
	for i := range 3 {
		changes = append(changes, rangeChanges("a heat", func(s *api.Season) *api.Range { return &s.Heats[i] })...)
	}
	for i := range 2 {
		changes = append(changes, rangeChanges("a damp", func(s *api.Season) *api.Range { return &s.Damps[i] })...)
	}
	changes = append(changes, change{"many joints", func(s *api.Season) { s.Joints = append(s.Joints, make([]api.Joint, 2)...) }, api.ErrMany})
	for i := range 2 {
		changes = append(changes, change{"kind", func(s *api.Season) { s.Joints[i].Kind = 0 }, api.ErrKind})
		changes = append(changes, rangeChanges("high", func(s *api.Season) *api.Range { return &s.Joints[i].High })...)
		changes = append(changes, rangeChanges("low", func(s *api.Season) *api.Range { return &s.Joints[i].Low })...)
		changes = append(changes, rangeChanges("weeks", func(s *api.Season) *api.Range { return &s.Joints[i].Weeks })[:2]...)
		changes = append(changes, rangeChanges("life", func(s *api.Season) *api.Range { return &s.Joints[i].Life })[:2]...)
	}
	changes = append(changes, change{"many reports", func(s *api.Season) { s.Reports = append(s.Reports, make([]api.Seen, 4)...) }, api.ErrMany})
	for i := range 2 {
		changes = append(changes,
			change{"joint of a report", func(s *api.Season) { s.Reports[i].Joint = 2 }, api.ErrUnknown},
			change{"week of a report", func(s *api.Season) { s.Reports[i].Week = 3 }, api.ErrValue},
		)
	}
	start := told(seen(0, 0, false), seen(1, 1, true))
	for i, one := range changes {
		for _, other := range changes[i:] {
			both := copyOf(start)
			other.make(&both)
			one.make(&both)
			if e := wax.Check(both); e != one.want {
				t.Error(one.name, "and", other.name, e)
			}
		}
	}
}

// P6.1 to P6.6, R1, R3: the error of a season comes first, then those of numbers, and that there is no truth comes last; with an error there is no other result.
func TestErrorsOfCalls(t *testing.T) {
	for _, s := range []api.Season{seasonS(), but(func(s *api.Season) { s.Joints[1].Low = to(2, 1) }), told(seen(0, 0, true)), known(nil, 1, 2)} {
		valid := wax.Check(s)
		last := api.OK
		if valid == api.OK && against(s) {
			last = api.ErrAgainst
		}
		first := func(errors ...api.Errno) api.Errno {
			for _, e := range append([]api.Errno{valid}, errors...) {
				if e != api.OK {
					return e
				}
			}
			return last
		}
		no := func(wrong bool, e api.Errno) api.Errno {
			if wrong {
				return e
			}
			return api.OK
		}
		for _, n := range extremes {
			unknown := no(n < 0 || n >= len(s.Joints), api.ErrUnknown)
			l, e := wax.Weather(s, n)
			if want := first(no(n != 1 && n != 2, api.ErrKind)); e != want || (e != api.OK && len(l) > 0) {
				t.Error("weather", n, l, e, want)
			}
			list, e := wax.Fails(s, n)
			causes, x := wax.Causes(s, n)
			if want := first(unknown); e != want || x != want || want != api.OK && len(list)+len(causes) > 0 {
				t.Error("fails", n, list, causes, e, x, want)
			}
			r, e := wax.Sound(s, n)
			if want := first(no(n < 0 || n >= len(s.Heats), api.ErrValue)); e != want || e != api.OK && r != to(0, 0) {
				t.Error("sound", n, r, e, want)
			}
			looks, e := wax.Inspect(s, n)
			if want := first(no(n < 0 || n > 6, api.ErrValue)); e != want || e != api.OK && len(looks) > 0 {
				t.Error("inspect", n, looks, e, want)
			}
			for _, week := range extremes {
				want := first(unknown, no(week < 0 || week >= len(s.Heats), api.ErrValue))
				v, e := wax.Failed(s, n, week)
				if e != want || e != api.OK && v != 0 {
					t.Error("failed", n, week, v, e, want)
				}
				m, e := wax.Margin(s, n, week)
				if want == api.OK && v != never {
					want = api.ErrNone
				}
				if e != want || e != api.OK && m != 0 {
					t.Error("margin", n, week, m, e, want)
				}
			}
		}
		l, e := wax.First(s)
		if want := first(); e != want || e != api.OK && len(l) > 0 {
			t.Error("first", l, e, want)
		}
		n, e := wax.Unseen(s, nil)
		if want := first(); e != want || e != api.OK && n != 0 {
			t.Error("unseen", n, e, want)
		}
		text, e := wax.Write(s)
		wrong, x := wax.Wrong(s)
		if e != valid || x != valid || valid != api.OK && len(text)+len(wrong) > 0 {
			t.Error("write and wrong", text, wrong, e, x)
		}
	}
}
