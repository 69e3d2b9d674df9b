package bench_test

import (
	"slices"
	"testing"

	"musette/api"
	"musette/bench"
)

// firstLeast returns the first plan that costs least.
func firstLeast(plans [][]int, cost func(plan []int) int) ([]int, int) {
	best := plans[0]
	for _, plan := range plans {
		if cost(plan) < cost(best) {
			best = plan
		}
	}
	return best, cost(best)
}

// P7.4, P7.10: all plans are gone through; of several that are as good the first one is told.
func TestAllPlans(t *testing.T) {
	d := dice(5)
	others, first := 0, 0
	for i := range 400 {
		s := d.shop(d.roll(1, 8-i%3), d.roll(1, 9))
		plans := slices.Collect(allPlans(s))
		bad := worst(s)
		best, last := firstLeast(plans, func(plan []int) int { return lastOf(bad, plan) })
		if p, n, e := bench.Best(s); !slices.Equal(p, best) || n != last || e != api.OK {
			t.Fatal(s, p, n, e, best, last)
		}
		prompt, late := firstLeast(plans, func(plan []int) int { return lateIn(bad, plan) })
		if p, n, e := bench.Prompt(s); !slices.Equal(p, prompt) || n != late || e != api.OK {
			t.Fatal(s, p, n, e, prompt, late)
		}
		if !slices.Equal(best, prompt) {
			others++
		}
		if !slices.Equal(best, plans[0]) {
			first++
		}
	}
	if min(others, first) < 50 {
		t.Error("too rare", others, first)
	}
}

// P7.4: an order that is either late or not may be late, as one that always is.
func TestPromptMayBeLate(t *testing.T) {
	s := of(1, task(0, 3, work(0, 1, 3)), task(0, 5, work(0, 1, 3)))
	if p, n, e := bench.Prompt(s); !slices.Equal(p, []int{0, 1}) || n != 1 || e != api.OK {
		t.Error(p, n, e)
	}
	s.Tasks[1].Due = 3
	s.Tasks[0].Due = 2
	if p, n, e := bench.Prompt(s); !slices.Equal(p, []int{1, 0}) || n != 1 || e != api.OK {
		t.Error(p, n, e)
	}
	for _, f := range []func(api.Shop) ([]int, int, api.Errno){bench.Best, bench.Prompt} {
		if p, n, e := f(of(3)); len(p) > 0 || n != 0 || e != api.OK {
			t.Error(p, n, e)
		}
	}
}

// ways returns all ways to put so many works of an order into a plan, in lexicographic order.
func ways(plan []int, order, works int) [][]int {
	if works == 0 {
		return [][]int{plan}
	}
	var all [][]int
	for _, longer := range ways(plan, order, works-1) {
		for at := range len(longer) + 1 {
			all = append(all, slices.Insert(slices.Clone(longer), at, order))
		}
	}
	slices.SortFunc(all, slices.Compare)
	return slices.CompactFunc(all, slices.Equal)
}

// P7.5, P7.14: all ways to put an order in are gone through, the other orders stay as they are, and the first one of the best is told.
func TestAllWaysToPutIn(t *testing.T) {
	d := dice(6)
	worse, inner := 0, 0
	for range 600 {
		s := d.shop(d.roll(1, 8), d.roll(1, 9))
		if len(s.Tasks) == 0 {
			continue
		}
		added := len(s.Tasks) - 1
		less := api.Shop{Benches: s.Benches, Tasks: s.Tasks[:added]}
		plan := d.plan(less)
		all := ways(plan, added, len(s.Tasks[added].Works))
		want, last := firstLeast(all, func(plan []int) int { return lastOf(worst(s), plan) })
		p, n, e := bench.PutIn(less, plan, s.Tasks[added])
		if !slices.Equal(p, want) || n != last || e != api.OK {
			t.Fatal(s, plan, p, n, e, want, last)
		}
		if others := slices.DeleteFunc(slices.Clone(p), func(order int) bool { return order == added }); !slices.Equal(others, plan) {
			t.Fatal(s, plan, p)
		}
		if best, _ := bestOf(t, s); best < n {
			worse++
		}
		if !slices.Equal(p, all[0]) {
			inner++
		}
	}
	if min(worse, inner) < 50 {
		t.Error("too rare", worse, inner)
	}
}
