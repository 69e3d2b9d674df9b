package bench_test

import (
	"math"
	"slices"
	"testing"

	"musette/api"
	"musette/bench"
)

// extremes are numbers within bounds, at their ends, and beyond them.
var extremes = []int{math.MinInt, math.MinInt + 1, -201, -21, -20, -4, -3, -2, -1, 0, 1, 2, 3, 4, 5, 6, 7, 8, 9, 19, 20, 21, 22, 199, 200, 201, 202, 999, math.MaxInt - 1, math.MaxInt}

// bounded returns the error of a number that has bounds.
func bounded(n, least, most int) api.Errno {
	if n < least || n > most {
		return api.ErrValue
	}
	return api.OK
}

// firstOf returns the first of several errors that is one.
func firstOf(errors ...api.Errno) api.Errno {
	for _, e := range errors {
		if e != api.OK {
			return e
		}
	}
	return api.OK
}

// no returns an error if something is wrong.
func no(wrong bool, e api.Errno) api.Errno {
	if wrong {
		return e
	}
	return api.OK
}

// P7.1: the numbers of a shop, of its orders and of its works have their bounds.
func TestCheckNumbers(t *testing.T) {
	for _, n := range extremes {
		if e := bench.Check(of(n)); e != bounded(n, 1, 3) {
			t.Error("benches", n, e)
		}
		for order := range 3 {
			if e := bench.Check(but(func(s *api.Shop) { s.Tasks[order].Ready = n })); e != bounded(n, 0, 200) {
				t.Error("ready", order, n, e)
			}
			if e := bench.Check(but(func(s *api.Shop) { s.Tasks[order].Due = n })); e != bounded(n, 0, 200) {
				t.Error("due", order, n, e)
			}
			last := len(shopS().Tasks[order].Works) - 1
			for benches := 2; benches <= 3; benches++ {
				e := bench.Check(but(func(s *api.Shop) { s.Benches, s.Tasks[order].Works[last].Bench = benches, n }))
				if e != no(n < 0 || n >= benches, api.ErrUnknown) {
					t.Error("bench", order, n, e)
				}
			}
			for _, m := range extremes {
				want := firstOf(bounded(n, 1, 20), bounded(m, 1, 20), no(n > m, api.ErrOrder))
				if e := bench.Check(but(func(s *api.Shop) { s.Tasks[order].Works[last].Hours = to(n, m) })); e != want {
					t.Error("hours", order, n, m, e)
				}
			}
		}
	}
}

// P7.1: there are at most four orders, each with a work, and at most eight works of all orders together.
func TestCheckMany(t *testing.T) {
	works := func(n int) []api.Work { return slices.Repeat([]api.Work{work(0, 1, 1)}, n) }
	for n := range 12 {
		if e := bench.Check(of(1, slices.Repeat([]api.Task{task(0, 0, work(0, 1, 1))}, n)...)); e != no(n > 4, api.ErrMany) {
			t.Error("orders", n, e)
		}
		for m := range 12 {
			for k := range 12 {
				want := firstOf(no(n == 0 || m == 0 || k == 0, api.ErrFew), no(n+m+k > 8, api.ErrMany))
				if e := bench.Check(of(1, task(0, 0, works(n)...), task(0, 0, works(m)...), task(0, 0, works(k)...))); e != want {
					t.Error("works", n, m, k, e)
				}
			}
		}
	}
}

// change is a change of a shop, and the error that is due to it.
type change struct {
	name string
	make func(*api.Shop)
	want api.Errno
}

// P7.1, R1: of two errors of a shop the one that the chapter names first is returned, order by order, and work by work.
func TestCheckOrder(t *testing.T) {
	changes := []change{
		{"benches", func(s *api.Shop) { s.Benches = 4 }, api.ErrValue},
		{"orders", func(s *api.Shop) { s.Tasks = append(s.Tasks, make([]api.Task, 2)...) }, api.ErrMany},
	}
	for order := range 3 {
		changes = append(changes,
			change{"ready", func(s *api.Shop) { s.Tasks[order].Ready = -1 }, api.ErrValue},
			change{"due", func(s *api.Shop) { s.Tasks[order].Due = 201 }, api.ErrValue},
			change{"no works", func(s *api.Shop) { s.Tasks[order].Works = nil }, api.ErrFew},
		)
		for i := range shopS().Tasks[order].Works {
			hours := func(r api.Range) func(s *api.Shop) {
				return func(s *api.Shop) { s.Tasks[order].Works[i].Hours = r }
			}
			changes = append(changes,
				change{"bench", func(s *api.Shop) { s.Tasks[order].Works[i].Bench = 3 }, api.ErrUnknown},
				change{"hours", hours(to(21, 0)), api.ErrValue},
				change{"order of hours", hours(to(2, 1)), api.ErrOrder},
			)
		}
	}
	changes = append(changes, change{"many works", func(s *api.Shop) {
		t := &s.Tasks[2]
		t.Works = append(t.Works, slices.Repeat([]api.Work{work(0, 1, 1)}, 8)...)
	}, api.ErrMany})
	for i, one := range changes {
		for _, other := range changes[i:] {
			both := shopS()
			other.make(&both)
			one.make(&both)
			if e := bench.Check(both); e != one.want {
				t.Error(one.name, "and", other.name, e)
			}
		}
	}
}

// planError returns the error of a plan, in the words of the chapter.
func planError(s api.Shop, plan []int) api.Errno {
	left := map[int]int{}
	for order, t := range s.Tasks {
		left[order] = len(t.Works)
	}
	for _, order := range plan {
		if order < 0 || order >= len(s.Tasks) {
			return api.ErrUnknown
		}
		if left[order]--; left[order] < 0 {
			return api.ErrMany
		}
	}
	for _, n := range left {
		if n > 0 {
			return api.ErrFew
		}
	}
	return api.OK
}

// checkPlanned calls all functions that take a plan, which return this error, and then nothing else.
func checkPlanned(t *testing.T, s api.Shop, plan []int, want api.Errno) {
	t.Helper()
	slots, e1 := bench.Run(s, plan)
	ends, e2 := bench.Ends(s, plan)
	last, e3 := bench.Last(s, plan)
	late, e4 := bench.Late(s, plan)
	slack, e5 := bench.Slack(s, plan)
	critical, e6 := bench.Critical(s, plan)
	if errors := []api.Errno{e1, e2, e3, e4, e5, e6}; !slices.Equal(errors, slices.Repeat([]api.Errno{want}, 6)) {
		t.Error(s, plan, errors, want)
	}
	if want != api.OK && (len(slots)+len(ends)+len(late)+len(slack)+len(critical) > 0 || last != to(0, 0)) {
		t.Error(s, plan, slots, ends, last, late, slack, critical)
	}
}

// checkPutIn calls PutIn, which returns this error, and then nothing else.
func checkPutIn(t *testing.T, s api.Shop, plan []int, order api.Task, want api.Errno) {
	t.Helper()
	if longer, last, e := bench.PutIn(s, plan, order); e != want || e != api.OK && (len(longer) > 0 || last != 0) {
		t.Error(s, plan, order, longer, last, e, want)
	}
}

// P7.2, P7.3, P7.5: all lists of up to six numbers are plans, or have the first error that one of their numbers has; that works are missing comes last.
func TestPlanErrors(t *testing.T) {
	small := of(2, task(0, 9, work(0, 1, 1), work(1, 1, 2)), task(0, 9, work(1, 2, 3)), task(1, 9, work(0, 1, 1), work(0, 1, 1)))
	met := map[api.Errno]int{}
	for length := range 7 {
		list := make([]int, length)
		for i := range list {
			list[i] = -1
		}
		for more := true; more; {
			want := planError(small, list)
			met[want]++
			if e := must1(bench.Run(small, list)); e != want {
				t.Fatal(list, e, want)
			}
			more = false
			for i := range list {
				if list[i]++; list[i] <= 3 {
					more = true
					break
				}
				list[i] = -1
			}
		}
	}
	if min(met[api.OK], met[api.ErrFew], met[api.ErrMany], met[api.ErrUnknown]) < 30 {
		t.Error("too rare", met)
	}
	for _, plan := range [][]int{nil, {0}, {0, 0, 0}, {0, 0, 1, 2}, {0, 0, 1, 2, 2}, {2, 1, 2, 0, 0}, {0, 0, 1, 2, 2, 3}, {0, 0, 1, 2, 2, 2}, {3, 0, 0, 0}, {0, 0, 0, 3}, {-1}, {math.MinInt}, {math.MaxInt}, {0, 0, 1, 2, math.MaxInt}} {
		want := planError(small, plan)
		checkPlanned(t, small, plan, want)
		checkPutIn(t, small, plan, task(0, 0, work(0, 1, 1)), want)
	}
}

// must1 returns the error of a result.
func must1[T any](_ T, e api.Errno) api.Errno { return e }

// P7.1 to P7.5, P7.7, R1, R3: the error of the shop comes ahead of that of the plan, and with an error there is no other result.
func TestErrorsOfShops(t *testing.T) {
	for _, s := range []api.Shop{
		shopS(), of(1), of(0),
		but(func(s *api.Shop) { s.Tasks[1].Works = nil }),
		but(func(s *api.Shop) { s.Tasks[0].Works[0].Bench = 2 }),
		but(func(s *api.Shop) { s.Tasks[0].Works[1].Bench = -1 }),
		but(func(s *api.Shop) { s.Tasks[2].Works[0].Hours = to(5, 4) }),
		but(func(s *api.Shop) { s.Tasks = append(s.Tasks, s.Tasks...) }),
		but(func(s *api.Shop) { s.Tasks[2].Works = slices.Repeat(s.Tasks[2].Works, 5) }),
	} {
		want := bench.Check(s)
		loads, e1 := bench.Load(s)
		bound, e2 := bench.Bound(s)
		plan, last, e3 := bench.Best(s)
		other, late, e4 := bench.Prompt(s)
		text, e5 := bench.Write(s)
		if errors := []api.Errno{e1, e2, e3, e4, e5}; !slices.Equal(errors, slices.Repeat([]api.Errno{want}, 5)) {
			t.Error(s, errors, want)
		}
		if want != api.OK && (len(loads)+len(plan)+len(other)+len(text) > 0 || bound != 0 || last != 0 || late != 0) {
			t.Error(s, loads, bound, plan, last, other, late, text)
		}
		for _, plan := range [][]int{nil, {9}, examplePlan(), {0, 0, 0, 0, 0, 0}} {
			checkPlanned(t, s, plan, firstOf(want, planError(s, plan)))
		}
	}
}

// P7.5, R1: the error of the plan comes ahead of that of the order; the order is the last one of its shop.
func TestErrorsOfPutIn(t *testing.T) {
	full := func(orders int) api.Shop {
		return of(1, slices.Repeat([]api.Task{task(0, 0, work(0, 1, 1), work(0, 1, 1))}, orders)...)
	}
	works := func(n int) api.Task { return task(0, 0, slices.Repeat([]api.Work{work(0, 1, 1)}, n)...) }
	for _, c := range []struct {
		s     api.Shop
		plan  []int
		order api.Task
		want  api.Errno
	}{
		{of(0), []int{9}, api.Task{}, api.ErrValue},
		{shopS(), []int{9}, api.Task{}, api.ErrUnknown},
		{shopS(), []int{0, 1, 1, 2}, api.Task{}, api.ErrFew},
		{shopS(), examplePlan(), api.Task{}, api.ErrFew},
		{shopS(), examplePlan(), task(201, 0), api.ErrValue},
		{shopS(), examplePlan(), task(0, -1), api.ErrValue},
		{shopS(), examplePlan(), task(0, 0, work(2, 0, 0)), api.ErrUnknown},
		{shopS(), examplePlan(), task(0, 0, work(1, 0, 0)), api.ErrValue},
		{shopS(), examplePlan(), task(0, 0, work(1, 2, 1)), api.ErrOrder},
		{shopS(), examplePlan(), works(3), api.OK},
		{shopS(), examplePlan(), works(4), api.ErrMany},
		{full(3), []int{0, 1, 2, 0, 1, 2}, works(2), api.OK},
		{full(3), []int{0, 1, 2, 0, 1, 2}, works(3), api.ErrMany},
		{full(4), []int{0, 1, 2, 3, 0, 1, 2, 3}, api.Task{}, api.ErrMany},
		{full(4), []int{0, 1, 2, 3, 0, 1, 2}, api.Task{}, api.ErrFew},
		{of(1), nil, works(8), api.OK},
		{of(1), nil, works(9), api.ErrMany},
	} {
		checkPutIn(t, c.s, c.plan, c.order, c.want)
	}
}

// P7.6, R1: the error of the shop comes first, then the lengths of all lists of the timetable, then its hours.
func TestErrorsOfTables(t *testing.T) {
	for i, c := range []struct {
		s      api.Shop
		begins [][]int
		want   api.Errno
	}{
		{of(0), [][]int{{1}}, api.ErrValue},
		{but(func(s *api.Shop) { s.Tasks[1].Works = nil }), [][]int{{0, 3}, {}, {7}}, api.ErrFew},
		{shopS(), nil, api.ErrText},
		{shopS(), [][]int{{0, 3}, {1, 3}}, api.ErrText},
		{shopS(), [][]int{{0, 3}, {1, 3}, {7}, {}}, api.ErrText},
		{shopS(), [][]int{{0}, {1, 3}, {7}}, api.ErrText},
		{shopS(), [][]int{{0, 3}, {1, 3}, {7, 9}}, api.ErrText},
		{shopS(), [][]int{{0, 3}, {1, 3}, nil}, api.ErrText},
		{shopS(), [][]int{{0, 201}, {1, 3}, {}}, api.ErrText},
		{shopS(), [][]int{{-1, 3}, {1, 3, 5}, {7}}, api.ErrText},
		{of(1), [][]int{{}}, api.ErrText},
	} {
		if o, w, e := bench.Clash(c.s, c.begins); o != 0 || w != 0 || e != c.want {
			t.Error(i, o, w, e)
		}
	}
	for _, n := range extremes {
		for _, begins := range [][][]int{{{n, 30}, {40, 50}, {60}}, {{0, 30}, {40, n}, {60}}, {{0, 30}, {40, 50}, {n}}} {
			o, w, e := bench.Clash(shopS(), begins)
			if want := bounded(n, 0, 200); want != api.OK && (e != want || o != 0 || w != 0) || want == api.OK && e == api.ErrValue {
				t.Error(begins, o, w, e)
			}
		}
	}
}
