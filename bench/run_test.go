package bench_test

import (
	"slices"
	"testing"

	"musette/api"
	"musette/bench"
)

// P7.1: the load of a bench is that of its works, and there is one for each bench.
func TestLoads(t *testing.T) {
	d := dice(1)
	for range 1000 {
		s := d.shop(8, d.roll(1, 20))
		want := make([]api.Range, s.Benches)
		first := true
		for known := range slices.Values([]api.Shop{best(s), d.truth(s), worst(s)}) {
			sums := make([]int, s.Benches)
			for _, x := range doneBy(known, sortedPlan(s)) {
				sums[x.bench] += x.end - x.begin
			}
			for i, sum := range sums {
				widen(&want[i], sum, first)
			}
			first = false
		}
		if l, e := bench.Load(s); !slices.Equal(l, want) || e != api.OK {
			t.Fatal(s, l, e, want)
		}
	}
}

// boundOf returns the bound of a shop, in the words of the chapter.
func boundOf(s api.Shop) int {
	most := 0
	for b := range s.Benches {
		var before, after []int
		sum := 0
		for _, t := range s.Tasks {
			for i, w := range t.Works {
				if w.Bench != b {
					continue
				}
				sum += w.Hours.Max
				head, tail := t.Ready, 0
				for _, other := range t.Works[:i] {
					head += other.Hours.Max
				}
				for _, other := range t.Works[i+1:] {
					tail += other.Hours.Max
				}
				before, after = append(before, head), append(after, tail)
			}
		}
		if sum > 0 {
			most = max(most, slices.Min(before)+sum+slices.Min(after))
		}
	}
	for _, t := range s.Tasks {
		end := t.Ready
		for _, w := range t.Works {
			end += w.Hours.Max
		}
		most = max(most, end)
	}
	return most
}

// P7.1: the bound is the greatest of those of the orders, and of the benches.
func TestBounds(t *testing.T) {
	for i, c := range []struct {
		s    api.Shop
		want int
	}{
		{of(3), 0},
		{of(1, task(200, 0, work(0, 20, 20))), 220},
		{of(2, task(3, 0, work(1, 1, 4)), task(5, 0, work(1, 2, 2))), 9},
		{of(2, task(9, 0, work(0, 1, 1), work(1, 2, 3)), task(5, 0, work(1, 1, 2), work(0, 6, 7), work(0, 1, 1))), 16},
		{of(2, task(1, 9, work(0, 9, 9), work(1, 1, 3)), task(0, 9, work(0, 9, 9), work(1, 1, 2))), 20},
		{of(2, task(0, 9, work(0, 1, 2), work(1, 4, 5)), task(9, 9, work(0, 3, 3), work(1, 1, 6))), 18},
		{of(1, task(0, 9, work(0, 1, 1), work(0, 2, 2), work(0, 3, 3))), 6},
	} {
		if n, e := bench.Bound(c.s); n != c.want || e != api.OK {
			t.Error(i, n, e)
		}
	}
	d := dice(2)
	benches := 0
	for range 3000 {
		s := d.shop(8, d.roll(1, 20))
		n, e := bench.Bound(s)
		if n != boundOf(s) || e != api.OK {
			t.Fatal(s, n, e, boundOf(s))
		}
		for order := range s.Tasks {
			if alone := of(s.Benches, s.Tasks[order]); n > boundOf(alone) {
				benches++
			}
		}
	}
	if benches < 1000 {
		t.Error("too rare", benches)
	}
}

// checkTruths compares Run, Ends, Last and Late with all truths, and counts verdicts.
func checkTruths(t *testing.T, s api.Shop, plan []int, met map[int]int) {
	t.Helper()
	var slots []api.Slot
	ends, late := make([]api.Range, len(s.Tasks)), make([]int, len(s.Tasks))
	var last api.Range
	number := 0
	for known := range truths(s) {
		for place, x := range doneBy(known, plan) {
			if number == 0 {
				slots = append(slots, api.Slot{Task: x.order, Work: x.work, Bench: x.bench})
			}
			widen(&slots[place].Begin, x.begin, number == 0)
			widen(&slots[place].End, x.end, number == 0)
		}
		for order, end := range endsOf(known, plan) {
			widen(&ends[order], end, number == 0)
			if end > s.Tasks[order].Due {
				late[order]++
			}
		}
		widen(&last, lastOf(known, plan), number == 0)
		number++
	}
	for order := range late {
		late[order] = verdictOf(late[order], number)
		met[late[order]]++
	}
	if l, e := bench.Run(s, plan); !slices.Equal(l, slots) || e != api.OK {
		t.Fatal(s, plan, l, e, slots)
	}
	if l, e := bench.Ends(s, plan); !slices.Equal(l, ends) || e != api.OK {
		t.Fatal(s, plan, l, e, ends)
	}
	if r, e := bench.Last(s, plan); r != last || e != api.OK {
		t.Fatal(s, plan, r, e, last)
	}
	if l, e := bench.Late(s, plan); !slices.Equal(l, late) || e != api.OK {
		t.Fatal(s, plan, l, e, late)
	}
}

// P7.2, P7.8: what is said of a plan is just what all truths say.
func TestAllTruths(t *testing.T) {
	d := dice(3)
	met := map[int]int{}
	for range 1500 {
		s := d.shop(d.roll(4, 8), 3)
		checkTruths(t, s, d.plan(s), met)
	}
	if min(met[always], met[never], met[either]) < 200 {
		t.Error("too rare", met)
	}
}

// P7.2: an order that ends at the hour at which it is due is not late, one that ends an hour later is.
func TestLateFromDue(t *testing.T) {
	for due, want := range []int{always, always, always, either, either, never, never} {
		s := of(1, task(1, due, work(0, 2, 4)))
		if l, e := bench.Late(s, []int{0}); !slices.Equal(l, []int{want}) || e != api.OK {
			t.Error(due, l, e)
		}
	}
}

// P7.2: without works there is nothing to tell.
func TestNoWorks(t *testing.T) {
	checkPlanned(t, of(2), nil, api.OK)
	slots, _ := bench.Run(of(2), nil)
	last, _ := bench.Last(of(2), nil)
	critical, _ := bench.Critical(of(2), nil)
	if len(slots)+len(critical) > 0 || last != to(0, 0) {
		t.Error(slots, last, critical)
	}
	if l, e := bench.Load(of(3)); !slices.Equal(l, make([]api.Range, 3)) || e != api.OK {
		t.Error(l, e)
	}
}

// P7.2: hours may be later than those that a shop may say.
func TestLongPlans(t *testing.T) {
	s := of(1, task(200, 200, slices.Repeat([]api.Work{work(0, 19, 20)}, 8)...))
	plan := make([]int, 8)
	if r, e := bench.Last(s, plan); r != to(352, 360) || e != api.OK {
		t.Error(r, e)
	}
	if l, e := bench.Late(s, plan); !slices.Equal(l, []int{always}) || e != api.OK {
		t.Error(l, e)
	}
	if p, n, e := bench.Best(s); !slices.Equal(p, plan) || n != 360 || e != api.OK {
		t.Error(p, n, e)
	}
}

// stretched returns the worst case of a shop in which one work of the plan takes some hours more.
func stretched(s api.Shop, plan []int, place, hours int) api.Shop {
	s = worst(s)
	x := doneBy(s, plan)[place]
	w := &s.Tasks[x.order].Works[x.work]
	w.Hours = to(w.Hours.Max+hours, w.Hours.Max+hours)
	return s
}

// P7.3, P7.13: up to Slack the last end is no later, and an hour more is too much; Critical is where it is 0.
func TestSlacks(t *testing.T) {
	d := dice(4)
	met := map[int]int{}
	for range 1500 {
		s := d.shop(8, d.roll(1, 20))
		plan := d.plan(s)
		last := lastOf(worst(s), plan)
		var want, critical []int
		for place := range plan {
			hours := 0
			for lastOf(stretched(s, plan, place, hours+1), plan) == last {
				hours++
			}
			want = append(want, hours)
			if hours == 0 {
				critical = append(critical, place)
			}
			met[min(hours, 21)]++
		}
		if l, e := bench.Slack(s, plan); !slices.Equal(l, want) || e != api.OK {
			t.Fatal(s, plan, l, e, want)
		}
		if l, e := bench.Critical(s, plan); !slices.Equal(l, critical) || e != api.OK {
			t.Fatal(s, plan, l, e, critical)
		}
		if len(plan) > 0 && len(critical) == 0 {
			t.Fatal(s, plan)
		}
	}
	if min(met[0], met[1], met[5], met[21]) < 30 {
		t.Error("too rare", met)
	}
}
