package bench_test

import (
	"iter"
	"slices"
	"testing"

	"musette/api"
	"musette/bench"
)

const (
	always = api.Always
	never  = api.Never
	either = api.Either
)

// to returns a range, work a work, task an order, of a shop of orders.
func to(least, most int) api.Range { return api.Range{Min: least, Max: most} }

func work(bench, least, most int) api.Work { return api.Work{Bench: bench, Hours: to(least, most)} }

func task(ready, due int, works ...api.Work) api.Task {
	return api.Task{Ready: ready, Due: due, Works: works}
}

func of(benches int, tasks ...api.Task) api.Shop { return api.Shop{Benches: benches, Tasks: tasks} }

// shopS is the shop S of the chapter's examples.
func shopS() api.Shop {
	return of(2,
		task(0, 8, work(0, 2, 3), work(1, 4, 4)),
		task(1, 6, work(1, 2, 2), work(0, 3, 5)),
		task(0, 20, work(1, 1, 3)),
	)
}

// but returns the shop S after a change.
func but(change func(s *api.Shop)) api.Shop {
	s := shopS()
	change(&s)
	return s
}

// copyOf returns a shop that shares no memory with the first one.
func copyOf(s api.Shop) api.Shop {
	s.Tasks = slices.Clone(s.Tasks)
	for i, t := range s.Tasks {
		s.Tasks[i].Works = slices.Clone(t.Works)
	}
	return s
}

// equal tells whether two shops are the same.
func equal(a, b api.Shop) bool {
	return a.Benches == b.Benches && slices.EqualFunc(a.Tasks, b.Tasks, func(a, b api.Task) bool {
		return a.Ready == b.Ready && a.Due == b.Due && slices.Equal(a.Works, b.Works)
	})
}

// isZero tells whether a shop is the zero value, but for empty slices.
func isZero(s api.Shop) bool { return equal(s, api.Shop{}) }

// must returns what takes a result without an error, and ends the test otherwise.
func must[T any](t *testing.T) func(result T, e api.Errno) T {
	return func(result T, e api.Errno) T {
		t.Helper()
		if e != api.OK {
			t.Fatal(result, e)
		}
		return result
	}
}

// bestOf returns the last end by the best plan, and this plan.
func bestOf(t *testing.T, s api.Shop) (int, []int) {
	t.Helper()
	plan, last, e := bench.Best(s)
	if e != api.OK {
		t.Fatal(s, e)
	}
	return last, plan
}

// dice gives numbers that look random but are the same in each run.
type dice uint64

// roll returns a number from least to most.
func (d *dice) roll(least, most int) int {
	*d = *d*6364136223846793005 + 1442695040888963407
	return least + int(uint64(*d)>>33)%(most-least+1)
}

// shop returns a shop with at most so many works, none of which takes more than so many hours.
func (d *dice) shop(works, hours int) api.Shop {
	s := of(d.roll(1, 3))
	for range min(d.roll(d.roll(0, 2), 4), works) {
		least := d.roll(1, hours)
		s.Tasks = append(s.Tasks, task(d.roll(0, hours), d.roll(0, 5*hours), work(d.roll(0, s.Benches-1), least, d.roll(least, hours))))
	}
	for range d.roll(0, works-len(s.Tasks)) {
		if len(s.Tasks) > 0 {
			t := &s.Tasks[d.roll(0, len(s.Tasks)-1)]
			least := d.roll(1, hours)
			t.Works = append(t.Works, work(d.roll(0, s.Benches-1), least, d.roll(least, hours)))
		}
	}
	return s
}

// plan returns a plan of a shop.
func (d *dice) plan(s api.Shop) []int {
	plan := sortedPlan(s)
	for i := range plan {
		j := d.roll(i, len(plan)-1)
		plan[i], plan[j] = plan[j], plan[i]
	}
	return plan
}

// truth returns the shop in which all hours are known to be some of a shop.
func (d *dice) truth(s api.Shop) api.Shop {
	return with(s, func(r api.Range) int { return d.roll(r.Min, r.Max) })
}

// with returns the shop in which all hours are known.
func with(s api.Shop, hours func(api.Range) int) api.Shop {
	s = copyOf(s)
	for _, t := range s.Tasks {
		for i, w := range t.Works {
			n := hours(w.Hours)
			t.Works[i].Hours = to(n, n)
		}
	}
	return s
}

func worst(s api.Shop) api.Shop { return with(s, func(r api.Range) int { return r.Max }) }

func best(s api.Shop) api.Shop { return with(s, func(r api.Range) int { return r.Min }) }

// truths hands out the shops of all truths of a shop.
func truths(s api.Shop) iter.Seq[api.Shop] {
	return func(yield func(api.Shop) bool) {
		known := copyOf(s)
		var works []*api.Work
		for _, t := range known.Tasks {
			for i := range t.Works {
				works = append(works, &t.Works[i])
			}
		}
		var choose func(place int) bool
		choose = func(place int) bool {
			if place == len(works) {
				return yield(copyOf(known))
			}
			r := works[place].Hours
			defer func() { works[place].Hours = r }()
			for n := r.Min; n <= r.Max; n++ {
				works[place].Hours = to(n, n)
				if !choose(place + 1) {
					return false
				}
			}
			return true
		}
		choose(0)
	}
}

// sortedPlan returns the first plan of a shop.
func sortedPlan(s api.Shop) []int {
	var plan []int
	for order, t := range s.Tasks {
		plan = append(plan, slices.Repeat([]int{order}, len(t.Works))...)
	}
	return plan
}

// allPlans hands out all plans of a shop in lexicographic order, each made out of the one before.
func allPlans(s api.Shop) iter.Seq[[]int] {
	return func(yield func([]int) bool) {
		plan := sortedPlan(s)
		for yield(slices.Clone(plan)) {
			left := len(plan) - 2
			for left >= 0 && plan[left] >= plan[left+1] {
				left--
			}
			if left < 0 {
				return
			}
			right := len(plan) - 1
			for plan[right] <= plan[left] {
				right--
			}
			plan[left], plan[right] = plan[right], plan[left]
			slices.Reverse(plan[left+1:])
		}
	}
}

// done is which work of a plan begins and ends when, in a truth.
type done struct{ order, work, bench, begin, end int }

// doneBy returns when the works of a plan begin and end in a truth (a shop with known hours), in the words of the chapter.
func doneBy(s api.Shop, plan []int) []done {
	var all []done
	for _, order := range plan {
		x := done{order: order, begin: s.Tasks[order].Ready}
		for _, before := range all {
			if before.order == order {
				x.work++
			}
		}
		w := s.Tasks[order].Works[x.work]
		x.bench = w.Bench
		for _, before := range all {
			if before.order == order || before.bench == x.bench {
				x.begin = max(x.begin, before.end)
			}
		}
		x.end = x.begin + w.Hours.Max
		all = append(all, x)
	}
	return all
}

// endsOf returns when each order ends in a truth, lastOf when the last one does.
func endsOf(s api.Shop, plan []int) []int {
	ends := make([]int, len(s.Tasks))
	for _, x := range doneBy(s, plan) {
		ends[x.order] = max(ends[x.order], x.end)
	}
	return ends
}

func lastOf(s api.Shop, plan []int) int { return slices.Max(append(endsOf(s, plan), 0)) }

// lateIn returns how many orders are late in a truth.
func lateIn(s api.Shop, plan []int) int {
	late := 0
	for order, end := range endsOf(s, plan) {
		if end > s.Tasks[order].Due {
			late++
		}
	}
	return late
}

// verdictOf returns the verdict on what is so in so many of all truths.
func verdictOf(so, all int) int {
	switch so {
	case all:
		return always
	case 0:
		return never
	}
	return either
}

// widen widens a range so that a number is in it; the first number makes it.
func widen(r *api.Range, n int, first bool) {
	if first {
		*r = to(n, n)
	}
	*r = to(min(r.Min, n), max(r.Max, n))
}
