package bench_test

import (
	"slices"
	"testing"

	"musette/api"
	"musette/bench"
)

// inside tells whether the range of a truth is one number that is within another range.
func inside(r, all api.Range) bool {
	return r.Min == r.Max && all.Min <= r.Min && r.Max <= all.Max
}

// P7.8: however many hours works truly take, all is within what was told, and verdicts are right.
func TestTrue(t *testing.T) {
	d := dice(11)
	for range 3000 {
		s := d.shop(8, d.roll(1, 20))
		plan, known := d.plan(s), d.truth(s)
		slots := must[[]api.Slot](t)(bench.Run(s, plan))
		for i, x := range must[[]api.Slot](t)(bench.Run(known, plan)) {
			if !inside(x.Begin, slots[i].Begin) || !inside(x.End, slots[i].End) {
				t.Fatal(s, plan, known, x, slots[i])
			}
		}
		ends, late := must[[]api.Range](t)(bench.Ends(s, plan)), must[[]int](t)(bench.Late(s, plan))
		truly := must[[]int](t)(bench.Late(known, plan))
		for order, end := range must[[]api.Range](t)(bench.Ends(known, plan)) {
			if !inside(end, ends[order]) || truly[order] == either || late[order] != either && late[order] != truly[order] {
				t.Fatal(s, plan, known, order, end, ends[order], truly, late)
			}
		}
		if last := must[api.Range](t)(bench.Last(known, plan)); !inside(last, must[api.Range](t)(bench.Last(s, plan))) {
			t.Fatal(s, plan, known, last)
		}
	}
}

// P7.8: in each truth no bench does two works at once, no work begins before the one before it has ended, nor before its order is ready; and none could begin sooner.
func TestNoTwoAtOnce(t *testing.T) {
	d := dice(12)
	for range 3000 {
		s := d.truth(d.shop(8, d.roll(1, 20)))
		slots := must[[]api.Slot](t)(bench.Run(s, d.plan(s)))
		for i, x := range slots {
			waits := s.Tasks[x.Task].Ready == x.Begin.Min
			for _, y := range slots[:i] {
				if x.Bench == y.Bench || x.Task == y.Task {
					if y.End.Max > x.Begin.Min {
						t.Fatal(s, y, x)
					}
					waits = waits || y.End.Max == x.Begin.Min
				}
			}
			if !waits || x.Begin.Min < s.Tasks[x.Task].Ready || x.Work > 0 && !slices.ContainsFunc(slots[:i], func(y api.Slot) bool { return y.Task == x.Task && y.Work == x.Work-1 }) {
				t.Fatal(s, slots, x)
			}
		}
	}
}

// P7.9: in the best case all is at the earliest, in the worst case at the latest.
func TestCases(t *testing.T) {
	d := dice(13)
	for range 3000 {
		s := d.shop(8, d.roll(1, 20))
		plan := d.plan(s)
		soon, late := must[[]api.Slot](t)(bench.Run(best(s), plan)), must[[]api.Slot](t)(bench.Run(worst(s), plan))
		for i, x := range must[[]api.Slot](t)(bench.Run(s, plan)) {
			if x.Begin != to(soon[i].Begin.Min, late[i].Begin.Max) || x.End != to(soon[i].End.Min, late[i].End.Max) {
				t.Fatal(s, plan, x, soon[i], late[i])
			}
		}
		first, final := must[api.Range](t)(bench.Last(best(s), plan)), must[api.Range](t)(bench.Last(worst(s), plan))
		if r := must[api.Range](t)(bench.Last(s, plan)); r != to(first.Min, final.Max) {
			t.Fatal(s, plan, r, first, final)
		}
	}
}

// P7.10: no plan ends sooner than Best in the worst case, nor as soon and comes before; so with Prompt.
func TestNoneBefore(t *testing.T) {
	d := dice(14)
	for range 100 {
		s := d.shop(7, d.roll(1, 9))
		last, plan := bestOf(t, s)
		prompt, late, e := bench.Prompt(s)
		if e != api.OK {
			t.Fatal(s, e)
		}
		for other := range allPlans(s) {
			n := must[api.Range](t)(bench.Last(s, other)).Max
			if n < last || n == last && slices.Compare(other, plan) < 0 {
				t.Fatal(s, plan, last, other, n)
			}
			n = 0
			for _, verdict := range must[[]int](t)(bench.Late(s, other)) {
				if verdict != never {
					n++
				}
			}
			if n < late || n == late && slices.Compare(other, prompt) < 0 {
				t.Fatal(s, prompt, late, other, n)
			}
			if slices.Equal(other, prompt) && n != late {
				t.Fatal(s, prompt, late, n)
			}
		}
	}
}

// P7.11: no plan ends before Bound in the worst case; with one order, or one bench on which all orders are ready at once, Best ends there.
func TestBoundAndBest(t *testing.T) {
	d := dice(15)
	met := map[bool]int{}
	for range 1000 {
		s := d.shop(6, d.roll(1, 20))
		bound := must[int](t)(bench.Bound(s))
		last, _ := bestOf(t, s)
		for range 10 {
			if n := must[api.Range](t)(bench.Last(s, d.plan(s))).Max; n < bound || n < last {
				t.Fatal(s, n, bound, last)
			}
		}
		if last < bound {
			t.Fatal(s, last, bound)
		}
		met[last == bound]++
		if len(s.Tasks) == 0 {
			continue
		}
		one := of(s.Benches, s.Tasks[0])
		if n, _ := bestOf(t, one); n != must[int](t)(bench.Bound(one)) {
			t.Fatal(one, n)
		}
		alike := copyOf(s)
		alike.Benches = 1
		for i := range alike.Tasks {
			alike.Tasks[i].Ready = alike.Tasks[0].Ready
			for j := range alike.Tasks[i].Works {
				alike.Tasks[i].Works[j].Bench = 0
			}
		}
		if n, _ := bestOf(t, alike); n != must[int](t)(bench.Bound(alike)) {
			t.Fatal(alike, n)
		}
	}
	if min(met[true], met[false]) < 50 {
		t.Error("too rare", met)
	}
}

// P7.13: with as many hours more as Slack says the last end is no later, with one more it is, as far as a work may take so many hours.
func TestSlackHours(t *testing.T) {
	d := dice(16)
	met := map[bool]int{}
	for range 2000 {
		s := d.shop(8, 9)
		plan := d.plan(s)
		last := must[api.Range](t)(bench.Last(s, plan)).Max
		slots := must[[]api.Slot](t)(bench.Run(s, plan))
		critical := must[[]int](t)(bench.Critical(s, plan))
		for i, slack := range must[[]int](t)(bench.Slack(s, plan)) {
			if slices.Contains(critical, i) != (slack == 0) {
				t.Fatal(s, plan, i, slack, critical)
			}
			for _, hours := range []int{slack, slack + 1} {
				longer := copyOf(s)
				w := &longer.Tasks[slots[i].Task].Works[slots[i].Work]
				if w.Hours.Max += hours; w.Hours.Max > api.MaxHours {
					continue
				}
				if n := must[api.Range](t)(bench.Last(longer, plan)).Max; (n > last) != (hours > slack) {
					t.Fatal(s, plan, i, slack, hours, n, last)
				}
				met[slack > 0]++
			}
		}
		if len(plan) > 0 && len(critical) == 0 {
			t.Fatal(s, plan)
		}
	}
	if min(met[true], met[false]) < 1000 {
		t.Error("too rare", met)
	}
}

// P7.15: with more hours, or later Ready, no work begins or ends sooner, and Best is no sooner.
func TestMoreHours(t *testing.T) {
	d := dice(17)
	later := 0
	for range 1000 {
		s := d.shop(6, d.roll(1, 9))
		if len(s.Tasks) == 0 {
			continue
		}
		more := copyOf(s)
		for range d.roll(1, 3) {
			x := &more.Tasks[d.roll(0, len(s.Tasks)-1)]
			r := &x.Works[d.roll(0, len(x.Works)-1)].Hours
			switch d.roll(0, 2) {
			case 0:
				x.Ready += d.roll(1, 9)
			case 1:
				r.Max++
			default:
				*r = to(r.Min+1, r.Max+1)
			}
		}
		plan := d.plan(s)
		before := must[[]api.Slot](t)(bench.Run(s, plan))
		for i, x := range must[[]api.Slot](t)(bench.Run(more, plan)) {
			y := before[i]
			if x.Begin.Min < y.Begin.Min || x.Begin.Max < y.Begin.Max || x.End.Min < y.End.Min || x.End.Max < y.End.Max {
				t.Fatal(s, more, plan, x, y)
			}
		}
		one, _ := bestOf(t, s)
		two, _ := bestOf(t, more)
		if two < one {
			t.Fatal(s, more, one, two)
		}
		if two > one {
			later++
		}
	}
	if later < 200 {
		t.Error("too rare", later)
	}
}

// P7.15: with an order less Best is no later.
func TestOrderLess(t *testing.T) {
	d := dice(18)
	sooner := 0
	for range 500 {
		s := d.shop(7, d.roll(1, 9))
		last, _ := bestOf(t, s)
		for order := range s.Tasks {
			less := copyOf(s)
			less.Tasks = slices.Delete(less.Tasks, order, order+1)
			n, _ := bestOf(t, less)
			if n > last {
				t.Fatal(s, order, last, n)
			}
			if n < last {
				sooner++
			}
		}
	}
	if sooner < 300 {
		t.Error("too rare", sooner)
	}
}

// shuffled returns the numbers below a limit in some order.
func (d *dice) shuffled(limit int) []int {
	var list []int
	for n := range limit {
		list = slices.Insert(list, d.roll(0, n), n)
	}
	return list
}

// P7.16: if benches have other numbers, all hours stay.
func TestOtherBenches(t *testing.T) {
	d := dice(19)
	for range 500 {
		s := d.shop(7, d.roll(1, 20))
		number := d.shuffled(s.Benches)
		other := copyOf(s)
		for _, x := range other.Tasks {
			for i, w := range x.Works {
				x.Works[i].Bench = number[w.Bench]
			}
		}
		plan := d.plan(s)
		slots := must[[]api.Slot](t)(bench.Run(s, plan))
		for i := range slots {
			slots[i].Bench = number[slots[i].Bench]
		}
		if l := must[[]api.Slot](t)(bench.Run(other, plan)); !slices.Equal(l, slots) {
			t.Fatal(s, number, plan, l, slots)
		}
		if one, two := must[[]int](t)(bench.Slack(s, plan)), must[[]int](t)(bench.Slack(other, plan)); !slices.Equal(one, two) {
			t.Fatal(s, number, plan, one, two)
		}
		last, best := bestOf(t, s)
		if n, p := bestOf(t, other); n != last || !slices.Equal(p, best) || must[int](t)(bench.Bound(s)) != must[int](t)(bench.Bound(other)) {
			t.Fatal(s, number, n, p, last, best)
		}
		loads := must[[]api.Range](t)(bench.Load(other))
		for b, load := range must[[]api.Range](t)(bench.Load(s)) {
			if loads[number[b]] != load {
				t.Fatal(s, number, loads, b, load)
			}
		}
	}
}

// P7.16: if orders have other numbers, Best ends at the same hour, and as many may be late.
func TestOtherOrders(t *testing.T) {
	d := dice(20)
	for range 500 {
		s := d.shop(7, d.roll(1, 20))
		number := d.shuffled(len(s.Tasks))
		other := copyOf(s)
		for order, x := range s.Tasks {
			other.Tasks[number[order]] = x
		}
		one, _ := bestOf(t, s)
		two, _ := bestOf(t, other)
		_, early, e := bench.Prompt(s)
		_, late, x := bench.Prompt(other)
		if one != two || early != late || e != api.OK || x != api.OK {
			t.Fatal(s, number, one, two, early, late, e, x)
		}
	}
}
