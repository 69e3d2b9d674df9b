package wax_test

import (
	"slices"
	"testing"

	"musette/api"
	"musette/wax"
)

// checkWeathers compares Weather with all truths of a season.
func checkWeathers(t *testing.T, s api.Season, truths []truth) {
	t.Helper()
	for kind, felt := range map[int]func(x truth) []int{
		api.JointWax:     func(x truth) []int { return x.heats },
		api.JointLeather: func(x truth) []int { return x.damps },
	} {
		var want []api.Range
		for week := range s.Heats {
			want = append(want, spanOf(truths, func(x truth) int { return felt(x)[week] }))
		}
		if l, e := wax.Weather(s, kind); !slices.Equal(l, want) || e != api.OK {
			t.Fatal(s, kind, l, e, want)
		}
	}
}

// checkFailures compares Fails, Failed and Causes with all truths of a season, and counts verdicts.
func checkFailures(t *testing.T, s api.Season, truths []truth, met map[int]int) {
	t.Helper()
	for joint := range s.Joints {
		var weeks []int
		for week := range len(s.Heats) + 1 {
			if slices.ContainsFunc(truths, func(x truth) bool { return x.weeks[joint] == week }) {
				weeks = append(weeks, week)
			}
		}
		if l, e := wax.Fails(s, joint); !slices.Equal(l, weeks) || e != api.OK {
			t.Fatal(s, joint, l, e, weeks)
		}
		for week := range s.Heats {
			want := verdictOf(truths, func(x truth) bool { return x.weeks[joint] <= week })
			if v, e := wax.Failed(s, joint, week); v != want || e != api.OK {
				t.Fatal(s, joint, week, v, e, want)
			}
			met[want]++
		}
		var causes []int
		for cause := range 3 {
			want := verdictOf(truths, func(x truth) bool { return x.causes[joint][cause] })
			causes = append(causes, want)
			met[10+10*cause+want]++
		}
		if l, e := wax.Causes(s, joint); !slices.Equal(l, causes) || e != api.OK {
			t.Fatal(s, joint, l, e, causes)
		}
	}
}

// checkFirst compares First and Sound with all truths of a season, and counts verdicts.
func checkFirst(t *testing.T, s api.Season, truths []truth, met map[int]int) {
	t.Helper()
	var first []int
	for joint := range s.Joints {
		want := verdictOf(truths, func(x truth) bool {
			return x.weeks[joint] < len(s.Heats) && x.weeks[joint] == slices.Min(x.weeks)
		})
		first = append(first, want)
		met[40+want]++
	}
	if l, e := wax.First(s); !slices.Equal(l, first) || e != api.OK {
		t.Fatal(s, l, e, first)
	}
	for week := range s.Heats {
		want := spanOf(truths, func(x truth) int {
			sound := 0
			for _, failure := range x.weeks {
				if failure > week {
					sound++
				}
			}
			return sound
		})
		if r, e := wax.Sound(s, week); r != want || e != api.OK {
			t.Fatal(s, week, r, e, want)
		}
	}
}

// P6.1 to P6.3, P6.9: all weathers and all numbers of joints are gone through, and what is said is just what all truths say.
func TestAllTruths(t *testing.T) {
	d := dice(1)
	met := map[int]int{}
	none := 0
	for range 3000 {
		s := d.season(1500)
		truths := truthsOf(s)
		if len(truths) == 0 {
			none++
			if !against(s) {
				t.Fatal(s)
			}
			continue
		}
		checkWeathers(t, s, truths)
		checkFailures(t, s, truths, met)
		checkFirst(t, s, truths, met)
	}
	for kind := range 5 {
		for _, v := range []int{always, never, either} {
			if met[10*kind+v] < 150 {
				t.Error("too rare", kind, v, met)
			}
		}
	}
	if none < 300 {
		t.Error("too rare", none)
	}
}

// P6.1: what reports tell of the weather of one kind tells nothing of the other one, week by week.
func TestWeatherTold(t *testing.T) {
	hot := but(func(s *api.Season) { s.Joints[0].High = to(30, 30) })
	for i, c := range []struct {
		reports []api.Seen
		want    []api.Range
	}{
		{nil, seasonS().Heats},
		{[]api.Seen{seen(0, 1, true)}, []api.Range{to(20, 21), to(30, 30), to(10, 10)}},
		{[]api.Seen{seen(0, 1, false)}, []api.Range{to(20, 21), to(28, 29), to(10, 10)}},
		{[]api.Seen{seen(0, 2, true)}, seasonS().Heats},
		{[]api.Seen{seen(0, 0, false), seen(1, 0, false)}, seasonS().Heats},
	} {
		hot.Reports = c.reports
		if l, e := wax.Weather(hot, api.JointWax); !slices.Equal(l, c.want) || e != api.OK {
			t.Error(i, l, e)
		}
		if l, e := wax.Weather(hot, api.JointLeather); !slices.Equal(l, hot.Damps) || e != api.OK {
			t.Error(i, l, e)
		}
	}
}

// P6.2: the first week with a cause is that of the failure, and all causes in it count; weeks in which it is too cold need not come one after the other.
func TestCausesTogether(t *testing.T) {
	for i, c := range []struct {
		s      api.Season
		weeks  []int
		causes []int
	}{
		{known([]api.Joint{waxen(20, 0, 1, 9)}, 10, 19), []int{2}, []int{never, never, never}},
		{known([]api.Joint{waxen(20, 0, 1, 9)}, 10, 20), []int{1}, []int{always, never, never}},
		{known([]api.Joint{waxen(20, 0, 1, 1)}, 10, 20), []int{1}, []int{always, never, always}},
		{known([]api.Joint{waxen(20, 0, 1, 2)}, 10, 10), []int{2}, []int{never, never, never}},
		{known([]api.Joint{waxen(20, 0, 1, 0)}, 0, 20), []int{0}, []int{never, always, always}},
		{known([]api.Joint{waxen(0, 0, 1, 0)}, 0), []int{0}, []int{always, always, always}},
		{known([]api.Joint{waxen(20, 0, 2, 9)}, 0, 1, 0, 20), []int{2}, []int{never, always, never}},
		{known([]api.Joint{waxen(20, 0, 3, 9)}, 0, 1, 0, 20), []int{3}, []int{always, never, never}},
		{known([]api.Joint{waxen(5, 10, 3, 9)}, 0, 1, 10), []int{2}, []int{always, always, never}},
		{known([]api.Joint{waxen(20, -50, 1, 9)}, -49, -50), []int{1}, []int{never, always, never}},
		{known([]api.Joint{waxen(100, -50, 6, 9)}, 99, 100), []int{1}, []int{always, never, never}},
		{known([]api.Joint{waxen(9, 0, 6, 9)}, 0, 0, 0, 0, 0, 0), []int{5}, []int{never, always, never}},
		{known([]api.Joint{leathern(0, -50, 6, 9)}, 9, 9), []int{0}, []int{always, never, never}},
	} {
		l, e := wax.Fails(c.s, 0)
		v, x := wax.Causes(c.s, 0)
		if !slices.Equal(l, c.weeks) || !slices.Equal(v, c.causes) || e != api.OK || x != api.OK {
			t.Error(i, l, v, e, x)
		}
	}
}

// P6.3: where nothing can fail no joint is the first one; joints that fail in the same week all are; without joints none is sound.
func TestFirstTogether(t *testing.T) {
	twin := waxen(20, 0, 1, 1)
	for i, c := range []struct {
		s     api.Season
		first []int
		sound []api.Range
	}{
		{known(nil, 1), nil, []api.Range{to(0, 0)}},
		{known([]api.Joint{waxen(20, 0, 1, 9), leathern(20, -1, 1, 9)}, 1, 2), []int{never, never}, []api.Range{to(2, 2), to(2, 2)}},
		{known([]api.Joint{twin, twin, twin}, 1, 2), []int{always, always, always}, []api.Range{to(3, 3), to(0, 0)}},
		{known([]api.Joint{twin, leathern(20, -1, 1, 0), twin}, 1, 2), []int{never, always, never}, []api.Range{to(2, 2), to(0, 0)}},
	} {
		if l, e := wax.First(c.s); !slices.Equal(l, c.first) || e != api.OK {
			t.Error(i, l, e)
		}
		for week, want := range c.sound {
			if r, e := wax.Sound(c.s, week); r != want || e != api.OK {
				t.Error(i, week, r, e)
			}
		}
	}
}

// P6.3: the weather is the same for all joints of a kind, so that they fail together, or not at all.
func TestSameWeather(t *testing.T) {
	s := known([]api.Joint{waxen(20, 0, 1, 9), waxen(20, 0, 1, 9)}, 1)
	s.Heats[0] = to(19, 20)
	if l, e := wax.First(s); !slices.Equal(l, []int{either, either}) || e != api.OK {
		t.Error(l, e)
	}
	s.Reports = []api.Seen{seen(0, 0, true)}
	if v, e := wax.Failed(s, 1, 0); v != always || e != api.OK {
		t.Error(v, e)
	}
	s.Reports = append(s.Reports, seen(1, 0, false))
	if !against(s) {
		t.Error(s)
	}
}
