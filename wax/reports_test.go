package wax_test

import (
	"slices"
	"testing"

	"musette/api"
	"musette/wax"
)

// P6.5, P6.12: Wrong is the first of all shortest lists of reports without which there is a truth.
func TestWrongAll(t *testing.T) {
	d := dice(3)
	lengths := map[int]int{}
	for range 1500 {
		s := d.open(300)
		if len(s.Joints) == 0 {
			continue
		}
		for range d.roll(0, 5) {
			s.Reports = append(s.Reports, d.report(s))
		}
		var want []int
		for _, list := range subsets(len(s.Reports)) {
			if len(truthsOf(without(s, list))) > 0 {
				want = list
				break
			}
		}
		l, e := wax.Wrong(s)
		if !slices.Equal(l, want) || e != api.OK {
			t.Fatal(s, l, e, want)
		}
		if against(without(s, l)) || against(s) != (len(l) > 0) {
			t.Fatal(s, l)
		}
		lengths[len(l)]++
	}
	if min(lengths[0], lengths[1], lengths[2]) < 50 || lengths[3]+lengths[4]+lengths[5] < 20 {
		t.Error("too rare", lengths)
	}
}

// P6.5: reports that are against the season, against each other, or against each other by the weather; of two the first one is wrong.
func TestWrongKinds(t *testing.T) {
	twins := func(reports ...api.Seen) api.Season {
		s := known([]api.Joint{waxen(20, 0, 1, 9), waxen(20, 0, 1, 9), leathern(20, -1, 1, 1)}, 1, 1)
		s.Heats[0], s.Reports = to(19, 20), reports
		return s
	}
	for i, c := range []struct {
		s    api.Season
		want []int
	}{
		{twins(), nil},
		{twins(seen(0, 0, true), seen(1, 0, false)), []int{0}},
		{twins(seen(0, 0, true), seen(1, 0, false), seen(1, 1, false)), []int{0}},
		{twins(seen(0, 0, true), seen(1, 0, false), seen(0, 1, true)), []int{1}},
		{twins(seen(0, 0, true), seen(1, 1, true), seen(2, 1, true)), nil},
		{twins(seen(2, 0, true)), []int{0}},
		{twins(seen(2, 0, false), seen(2, 1, false)), []int{1}},
		{twins(seen(0, 0, true), seen(2, 1, false), seen(1, 0, false)), []int{0, 1}},
		{twins(seen(0, 0, true), seen(0, 0, true), seen(2, 0, true), seen(1, 1, false), seen(2, 1, false)), []int{2, 3, 4}},
		{told(slices.Repeat([]api.Seen{seen(0, 0, true)}, 5)...), []int{0, 1, 2, 3, 4}},
		{told(slices.Repeat([]api.Seen{seen(0, 0, false)}, 5)...), nil},
	} {
		if l, e := wax.Wrong(c.s); !slices.Equal(l, c.want) || e != api.OK {
			t.Error(i, l, e)
		}
	}
}

// P6.5: With adds the last report if there is a truth with it; the errors come in their order.
func TestWith(t *testing.T) {
	full := told(slices.Repeat([]api.Seen{seen(0, 1, true)}, 5)...)
	four := told(slices.Repeat([]api.Seen{seen(0, 1, true)}, 4)...)
	broken := but(func(s *api.Season) { s.Joints[0].Kind = 3 })
	against := told(seen(1, 2, false))
	for i, c := range []struct {
		s    api.Season
		r    api.Seen
		want api.Errno
	}{
		{seasonS(), seen(0, 1, true), api.OK},
		{seasonS(), seen(1, 2, true), api.OK},
		{seasonS(), seen(1, 2, false), api.ErrAgainst},
		{seasonS(), seen(0, 0, true), api.ErrAgainst},
		{seasonS(), seen(0, 0, false), api.OK},
		{seasonT(), seen(0, 2, false), api.ErrAgainst},
		{seasonT(), seen(0, 2, true), api.OK},
		{four, seen(1, 1, false), api.OK},
		{full, seen(0, 1, true), api.ErrMany},
		{full, seen(2, 9, true), api.ErrMany},
		{against, seen(0, 2, true), api.ErrAgainst},
		{broken, seen(2, 0, true), api.ErrKind},
		{seasonS(), seen(2, 0, true), api.ErrUnknown},
		{seasonS(), seen(-1, 0, true), api.ErrUnknown},
		{seasonS(), seen(2, 3, true), api.ErrUnknown},
		{seasonS(), seen(1, 3, true), api.ErrValue},
		{seasonS(), seen(1, -1, false), api.ErrValue},
		{against, seen(1, 3, true), api.ErrValue},
		{known(nil, 1), seen(0, 0, true), api.ErrUnknown},
	} {
		s, e := wax.With(c.s, c.r)
		if e != c.want || e != api.OK && !isZero(s) {
			t.Error(i, s, e)
		}
		if e != api.OK {
			continue
		}
		due := copyOf(c.s)
		due.Reports = append(due.Reports, c.r)
		if !equal(s, due) {
			t.Error(i, s, due)
		}
	}
}

// P6.5: With has a season just if there is a truth with the report.
func TestWithAll(t *testing.T) {
	d := dice(4)
	met := map[api.Errno]int{}
	for range 1500 {
		s := d.season(300)
		if len(s.Joints) == 0 {
			continue
		}
		r := d.report(s)
		due := copyOf(s)
		due.Reports = append(due.Reports, r)
		want := api.OK
		if len(truthsOf(due)) == 0 {
			want, due = api.ErrAgainst, api.Season{}
		}
		if more, e := wax.With(s, r); e != want || !equal(more, due) {
			t.Fatal(s, r, more, e)
		}
		met[want]++
	}
	if min(met[api.OK], met[api.ErrAgainst]) < 200 {
		t.Error("too rare", met)
	}
}
