package wax_test

import (
	"math"
	"testing"

	"musette/api"
	"musette/wax"
)

// P6.6: Harder changes some weeks of one kind, and keeps no report.
func TestHarder(t *testing.T) {
	d := dice(5)
	for range 3000 {
		s := d.season(1 << 30)
		kind, by := d.roll(1, 2), d.roll(-20, 20)
		from := d.roll(0, len(s.Heats)-1)
		end := d.roll(from, len(s.Heats)-1)
		want := copyOf(s)
		want.Reports = nil
		for week, r := range feltBy(want, kind) {
			if from <= week && week <= end {
				feltBy(want, kind)[week] = to(r.Min+by, r.Max+by)
			}
		}
		if other, e := wax.Harder(s, kind, from, end, by); !equal(other, want) || e != api.OK {
			t.Fatal(s, kind, from, end, by, other, e)
		}
	}
}

// P6.6: the errors of Harder come in their order, and no number is too great or too small for them; reports against each other are none.
func TestHarderErrors(t *testing.T) {
	for i, c := range []struct {
		kind, from, to, by int
		want               api.Errno
	}{
		{0, 9, 9, 999, api.ErrKind}, {3, 0, 0, 0, api.ErrKind}, {-1, 0, 0, 0, api.ErrKind},
		{1, -1, 0, 0, api.ErrValue}, {1, 3, 3, 0, api.ErrValue}, {1, 0, 3, 0, api.ErrValue}, {1, 0, -1, 0, api.ErrValue}, {1, 3, 0, 0, api.ErrValue},
		{1, 2, 1, 0, api.ErrOrder}, {1, 1, 0, 999, api.ErrOrder}, {1, math.MinInt, math.MaxInt, 0, api.ErrValue},
		{1, 0, 2, 70, api.OK}, {1, 0, 2, 71, api.ErrValue}, {1, 1, 1, 71, api.ErrValue}, {1, 2, 2, 71, api.OK}, {1, 0, 0, 71, api.OK}, {1, 2, 2, 90, api.OK}, {1, 2, 2, 91, api.ErrValue},
		{1, 0, 2, -60, api.OK}, {1, 0, 2, -61, api.ErrValue}, {1, 2, 2, -61, api.ErrValue}, {1, 0, 1, -61, api.OK}, {1, 0, 0, -70, api.OK}, {1, 0, 0, -71, api.ErrValue},
		{2, 0, 2, 50, api.OK}, {2, 0, 2, 51, api.ErrValue}, {2, 0, 2, -100, api.OK}, {2, 0, 2, -101, api.ErrValue},
		{2, 0, 2, math.MaxInt, api.ErrValue}, {2, 0, 2, math.MinInt, api.ErrValue}, {1, 0, 0, math.MaxInt - 20, api.ErrValue}, {1, 0, 0, math.MinInt + 70, api.ErrValue},
	} {
		s, e := wax.Harder(told(seen(0, 0, true)), c.kind, c.from, c.to, c.by)
		if e != c.want || e == api.OK == isZero(s) {
			t.Error(i, s, e)
		}
		if s, e := wax.Harder(but(func(s *api.Season) { s.Heats[0] = to(1, 0) }), c.kind, c.from, c.to, c.by); e != api.ErrOrder || !isZero(s) {
			t.Error(i, s, e)
		}
	}
}

// marginOf returns how much warmer or damper it can be, in the words of the chapter.
func marginOf(s api.Season, joint, week int) int {
	s.Reports = nil
	j := s.Joints[joint]
	truths := truthsOf(s)
	for rise := 1; rise <= 30; rise++ {
		for numbers := range allOf([]api.Range{j.High, j.Low, j.Weeks, j.Life}) {
			for _, x := range truths {
				felt := x.heats
				if j.Kind == api.JointLeather {
					felt = x.damps
				}
				var warm []int
				for _, n := range felt {
					warm = append(warm, min(n+rise, 100))
				}
				if failure, _ := fail(warm, numbers[0], numbers[1], numbers[2], numbers[3]); failure <= week {
					return rise - 1
				}
			}
		}
	}
	return 30
}

// P6.6, P6.9, P6.15: Margin is what all truths say, for each number from 1 on.
func TestMarginAll(t *testing.T) {
	d := dice(6)
	met := map[int]int{}
	margins := map[bool]int{}
	for range 1200 {
		s := d.season(60)
		if len(s.Joints) == 0 {
			continue
		}
		joint, week := d.roll(0, len(s.Joints)-1), d.roll(0, len(s.Heats)-1)
		failed, x := wax.Failed(s, joint, week)
		n, e := wax.Margin(s, joint, week)
		switch {
		case x != api.OK:
			if e != x || n != 0 {
				t.Fatal(s, joint, week, n, e, x)
			}
		case failed != never:
			if e != api.ErrNone || n != 0 {
				t.Fatal(s, joint, week, n, e)
			}
		default:
			if want := marginOf(s, joint, week); n != want || e != api.OK {
				t.Fatal(s, joint, week, n, e, want)
			}
			margins[n > 0]++
		}
		met[failed]++
	}
	if min(met[always], met[never], met[either], margins[true], margins[false]) < 20 {
		t.Error("too rare", met, margins)
	}
}

// P6.6: the margin ends at 30, and weather at 100; what a report excludes may be so without it; where it is warmer, less wax cracks.
func TestMarginEdges(t *testing.T) {
	for i, c := range []struct {
		s           api.Season
		joint, week int
		want        int
		e           api.Errno
	}{
		{known([]api.Joint{waxen(40, 0, 1, 9)}, 9), 0, 0, 30, api.OK},
		{known([]api.Joint{waxen(39, 0, 1, 9)}, 9), 0, 0, 29, api.OK},
		{known([]api.Joint{waxen(10, 0, 1, 9)}, 9), 0, 0, 0, api.OK},
		{known([]api.Joint{waxen(9, 0, 1, 9)}, 9), 0, 0, 0, api.ErrNone},
		{known([]api.Joint{waxen(100, 0, 1, 9)}, 71), 0, 0, 28, api.OK},
		{known([]api.Joint{waxen(100, 0, 1, 9)}, 99, 10), 0, 1, 0, api.OK},
		{known([]api.Joint{waxen(100, 0, 1, 9)}, 10, 99), 0, 0, 30, api.OK},
		{known([]api.Joint{waxen(100, 0, 1, 1)}, 10, 9), 0, 0, 30, api.OK},
		{known([]api.Joint{waxen(100, 0, 1, 1)}, 10, 9), 0, 1, 0, api.ErrNone},
		{known([]api.Joint{leathern(20, -9, 1, 9)}, 99, 99), 0, 1, 19, api.OK},
		{told(seen(0, 1, false)), 0, 1, 0, api.OK},
		{told(seen(0, 0, false)), 0, 1, 0, api.ErrNone},
		{seasonS(), 1, 0, 9, api.OK},
		{told(seen(0, 2, false)), 0, 2, 0, api.OK},
	} {
		if n, e := wax.Margin(c.s, c.joint, c.week); n != c.want || e != c.e {
			t.Error(i, n, e)
		}
	}
	// Without the report the joint cracks in the week 2, if it is not at least one degree warmer; then it melts in the week 1 from two degrees on.
	cold := but(func(s *api.Season) { s.Joints[0].High, s.Heats[1] = to(32, 33), to(28, 30) })
	cold.Reports = []api.Seen{seen(0, 2, false)}
	if n, e := wax.Margin(cold, 0, 2); n != 1 || e != api.OK {
		t.Error(n, e)
	}
}
