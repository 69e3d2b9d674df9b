package bench_test

import (
	"slices"
	"testing"

	"musette/api"
	"musette/bench"
)

// place is a work of an order.
type place struct{ order, work int }

// firstBad returns the first work of a timetable that cannot always be done, hour by hour, in the words of the chapter.
func firstBad(s api.Shop, begins [][]int) (place, bool) {
	may := func(p place, hour int) bool {
		begin := begins[p.order][p.work]
		return begin <= hour && hour < begin+s.Tasks[p.order].Works[p.work].Hours.Max
	}
	var all []place
	for order, t := range s.Tasks {
		for work := range t.Works {
			all = append(all, place{order, work})
		}
	}
	for _, p := range all {
		begin, works := begins[p.order][p.work], s.Tasks[p.order].Works
		bad := begin < s.Tasks[p.order].Ready
		if p.work > 0 {
			bad = bad || begin < begins[p.order][p.work-1]+works[p.work-1].Hours.Max
		}
		for _, other := range all {
			if other == p || s.Tasks[other.order].Works[other.work].Bench != works[p.work].Bench {
				continue
			}
			for hour := begin; may(p, hour); hour++ {
				bad = bad || may(other, hour)
			}
		}
		if bad {
			return p, true
		}
	}
	return place{}, false
}

// checkTable compares Clash with what the chapter says.
func checkTable(t *testing.T, s api.Shop, begins [][]int) bool {
	t.Helper()
	want, found := firstBad(s, begins)
	e := api.ErrNone
	if found {
		e = api.OK
	}
	if o, w, x := bench.Clash(s, begins); o != want.order || w != want.work || x != e {
		t.Fatal(s, begins, o, w, x, want, found)
	}
	return found
}

// timetable returns the hours at which works begin by a plan in the worst case, and whether all of them may stand in a timetable.
func timetable(t *testing.T, s api.Shop, plan []int) ([][]int, bool) {
	t.Helper()
	begins := make([][]int, len(s.Tasks))
	fits := true
	for _, x := range must[[]api.Slot](t)(bench.Run(s, plan)) {
		begins[x.Task] = append(begins[x.Task], x.Begin.Max)
		fits = fits && x.Begin.Max <= 200
	}
	return begins, fits
}

// P7.6: all timetables are looked at hour by hour, those that come from plans, those with an hour changed, and any others.
func TestTimetables(t *testing.T) {
	d := dice(7)
	met := map[bool]int{}
	for range 3000 {
		s := d.shop(8, d.roll(1, 9))
		begins, _ := timetable(t, s, d.plan(s))
		met[checkTable(t, s, begins)]++
		if len(begins) == 0 {
			continue
		}
		for range 5 {
			hours := begins[d.roll(0, len(begins)-1)]
			at := d.roll(0, len(hours)-1)
			before := hours[at]
			hours[at] = max(0, before+d.roll(-3, 9))
			met[checkTable(t, s, begins)]++
			hours[at] = before
		}
		for _, hours := range begins {
			for i := range hours {
				hours[i] = d.roll(0, 60)
			}
		}
		met[checkTable(t, s, begins)]++
	}
	if min(met[true], met[false]) < 1000 {
		t.Error("too rare", met)
	}
}

// P7.6: works may follow each other without a break, in any order on a bench, but no hour belongs to two.
func TestClashHours(t *testing.T) {
	two := of(2, task(2, 9, work(0, 1, 3), work(0, 1, 2)), task(0, 9, work(0, 2, 2)), task(0, 9, work(1, 9, 9)))
	for i, c := range []struct {
		begins [][]int
		want   place
		e      api.Errno
	}{
		{[][]int{{2, 5}, {0}, {0}}, place{}, api.ErrNone},
		{[][]int{{2, 5}, {7}, {2}}, place{}, api.ErrNone},
		{[][]int{{2, 7}, {5}, {2}}, place{}, api.ErrNone},
		{[][]int{{2, 7}, {4}, {2}}, place{0, 0}, api.OK},
		{[][]int{{2, 7}, {6}, {2}}, place{0, 1}, api.OK},
		{[][]int{{1, 7}, {5}, {2}}, place{0, 0}, api.OK},
		{[][]int{{2, 4}, {6}, {2}}, place{0, 0}, api.OK},
		{[][]int{{10, 2}, {0}, {2}}, place{0, 1}, api.OK},
		{[][]int{{10, 13}, {11}, {2}}, place{0, 0}, api.OK},
		{[][]int{{10, 20}, {200}, {200}}, place{}, api.ErrNone},
		{[][]int{{10, 200}, {200}, {0}}, place{0, 1}, api.OK},
		{[][]int{{200, 200}, {0}, {0}}, place{0, 0}, api.OK},
	} {
		if o, w, e := bench.Clash(two, c.begins); (place{o, w}) != c.want || e != c.e {
			t.Error(i, o, w, e)
		}
	}
}

// tableEnds returns the hour at which the last work of a timetable may end.
func tableEnds(s api.Shop, begins [][]int) int {
	last := 0
	for order, hours := range begins {
		for work, begin := range hours {
			last = max(last, begin+s.Tasks[order].Works[work].Hours.Max)
		}
	}
	return last
}

// P7.12: all timetables of small shops that end before Best are gone through; none of them can always be kept.
func TestNoTableBeforeBest(t *testing.T) {
	d := dice(8)
	looked := 0
	for range 400 {
		s := d.shop(d.roll(1, 4), 3)
		best, _ := bestOf(t, s)
		number := 1
		for range sortedPlan(s) {
			number *= best
		}
		if number > 20000 {
			continue
		}
		for n := range number {
			begins := make([][]int, len(s.Tasks))
			for order, t := range s.Tasks {
				for range t.Works {
					begins[order] = append(begins[order], n%best)
					n /= best
				}
			}
			if tableEnds(s, begins) < best {
				looked++
				if o, w, e := bench.Clash(s, begins); e != api.OK {
					t.Fatal(s, begins, best, o, w, e)
				}
			}
		}
	}
	if looked < 10000 {
		t.Error("too rare", looked)
	}
}

// P7.12: the hours at which works begin by a plan in the worst case are a timetable that can always be kept, and the one of the best plan ends with it.
func TestTablesOfPlans(t *testing.T) {
	d := dice(9)
	met := 0
	for range 400 {
		s := d.shop(8, d.roll(1, 20))
		for range 10 {
			plan := d.plan(s)
			begins, fits := timetable(t, s, plan)
			if o, w, e := bench.Clash(s, begins); fits && e != api.ErrNone || !fits && e != api.ErrValue {
				t.Fatal(s, plan, begins, o, w, e)
			}
			if last := must[api.Range](t)(bench.Last(s, plan)); last.Max != tableEnds(s, begins) {
				t.Fatal(s, plan, last, begins)
			}
		}
		best, plan := bestOf(t, s)
		if begins, fits := timetable(t, s, plan); fits && len(plan) > 0 {
			if tableEnds(s, begins) != best || checkTable(t, s, begins) {
				t.Fatal(s, plan, begins, best)
			}
			met++
		}
	}
	if met < 300 {
		t.Error("too rare", met)
	}
	late := of(1, slices.Repeat([]api.Task{task(200, 0, work(0, 1, 1))}, 2)...)
	begins, fits := timetable(t, late, []int{0, 1})
	if _, _, e := bench.Clash(late, begins); fits || e != api.ErrValue {
		t.Error(begins, e)
	}
}
