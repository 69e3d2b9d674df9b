package batch_test

import (
	"slices"
	"testing"

	"musette/api"
	"musette/batch"
	"musette/bench"
)

// work returns a work, task an order that may end whenever it does, shopOf a shop.
func work(bench, least, most int) api.Work { return api.Work{Bench: bench, Hours: to(least, most)} }

func task(ready int, works ...api.Work) api.Task { return api.Task{Ready: ready, Works: works} }

func shopOf(benches int, tasks ...api.Task) api.Shop {
	return api.Shop{Benches: benches, Tasks: tasks}
}

// shop returns a shop with at most so many benches, orders and works, and a plan of it.
func (d *dice) shop(benches, orders, works int) (api.Shop, []int) {
	s := api.Shop{Benches: d.roll(1, benches)}
	var plan []int
	for range d.roll(0, min(orders, works)) {
		plan = append(plan, len(s.Tasks))
		s.Tasks = append(s.Tasks, task(d.roll(0, 5), d.work(s)))
	}
	for range d.roll(0, works-len(s.Tasks)) {
		if len(s.Tasks) > 0 {
			order := d.roll(0, len(s.Tasks)-1)
			plan = append(plan, order)
			s.Tasks[order].Works = append(s.Tasks[order].Works, d.work(s))
		}
	}
	for i := range plan {
		j := d.roll(i, len(plan)-1)
		plan[i], plan[j] = plan[j], plan[i]
	}
	return s, plan
}

// work returns a work of a shop.
func (d *dice) work(s api.Shop) api.Work {
	least := d.roll(1, 4)
	return work(d.roll(0, s.Benches-1), least, least+d.roll(0, 4))
}

// begun returns all places of a plan in the order in which their works begin in the worst case, of several that begin at once the first place first.
func begun(t *testing.T, s api.Shop, plan []int) []int {
	t.Helper()
	slots := must[[]api.Slot](t)(bench.Run(s, plan))
	var places []int
	for hour := 0; len(places) < len(slots); hour++ {
		for place, x := range slots {
			if x.Begin.Max == hour {
				places = append(places, place)
			}
		}
	}
	return places
}

// P9.6, P9.16: there is a move for each work, in the order in which they begin.
func TestWorks(t *testing.T) {
	d := dice(4)
	met := map[string]int{}
	for range 4000 {
		s, plan := d.shop(2, 4, 8)
		j, _ := d.story(d.roll(0, 5), 4, 2)
		longer, e := batch.Works(j, s, plan)
		slots := must[[]api.Slot](t)(bench.Run(s, plan))
		known := true
		for _, x := range slots {
			known = known && x.Bench < len(j.First) && x.Task < j.Instruments
		}
		want := firstOf(no(!known, api.ErrUnknown), no(len(j.Moves)+len(plan) > 10, api.ErrMany))
		if e != want {
			t.Fatal(j, s, plan, e, want)
		}
		met[e.Error()]++
		if e != api.OK {
			if !isZero(longer) {
				t.Fatal(longer)
			}
			continue
		}
		due := copyOf(j)
		for _, place := range begun(t, s, plan) {
			due.Moves = append(due.Moves, out(slots[place].Bench, slots[place].Task, 1, 1))
		}
		if !equal(longer, due) {
			t.Fatal(j, s, plan, longer, due)
		}
		if !slices.IsSorted(begun(t, s, plan)) {
			met["sorted"]++
		}
	}
	if min(met[api.OK.Error()], met[api.ErrUnknown.Error()], met[api.ErrMany.Error()], met["sorted"]) < 100 {
		t.Error("too rare", met)
	}
}

// P9.6, R1: the error of the journal comes first, then that of the shop and the plan, then what is unknown, then how many moves there are.
func TestErrorsOfWorks(t *testing.T) {
	one := shopOf(3, task(0, work(0, 1, 1)), task(0, work(1, 1, 1)), task(0, work(2, 1, 1)))
	full := func(bins string) api.Journal {
		return of(2, bins, slices.Repeat([]api.Move{count(0, 0, 0)}, 10)...)
	}
	for i, c := range []struct {
		j    api.Journal
		s    api.Shop
		plan []int
		want api.Errno
	}{
		{of(0, "f"), api.Shop{}, []int{5}, api.ErrValue},
		{of(1, ""), shopOf(1), nil, api.ErrFew},
		{of(1, "f"), api.Shop{}, nil, api.ErrValue},
		{of(1, "f"), shopOf(1), nil, api.OK},
		{of(1, "f"), shopOf(1), []int{0}, api.ErrUnknown},
		{of(1, "f"), shopOf(1, task(0)), nil, api.ErrFew},
		{of(2, "ff"), one, []int{0, 1}, api.ErrFew},
		{of(2, "ff"), one, []int{0, 1, 1}, api.ErrMany},
		{of(3, "ff"), one, []int{0, 1, 2}, api.ErrUnknown},
		{of(2, "ff"), shopOf(2, one.Tasks[:2]...), []int{0, 1}, api.OK},
		{of(1, "ff"), shopOf(2, one.Tasks[:2]...), []int{0, 1}, api.ErrUnknown},
		{of(2, "f"), shopOf(2, one.Tasks[:2]...), []int{0, 1}, api.ErrUnknown},
		{of(2, "f"), shopOf(3, one.Tasks[0], one.Tasks[0]), []int{0, 1}, api.OK},
		{full("ff"), shopOf(1), nil, api.OK},
		{full("ff"), shopOf(1, one.Tasks[0]), []int{0}, api.ErrMany},
		{full("f"), shopOf(2, one.Tasks[1]), []int{0}, api.ErrUnknown},
		{full("ff"), shopOf(1, one.Tasks[0]), []int{1}, api.ErrUnknown},
		{full("ff"), shopOf(1, one.Tasks[0]), nil, api.ErrFew},
	} {
		if j, e := batch.Works(c.j, c.s, c.plan); e != c.want || e != api.OK && !isZero(j) || e == api.OK && len(j.Moves) != len(c.j.Moves)+len(c.plan) {
			t.Error(i, j, e)
		}
	}
}

// P9.6: a journal need not stand, before or after.
func TestWorksAgainst(t *testing.T) {
	s := shopOf(1, task(0, work(0, 1, 1)))
	for _, j := range []api.Journal{of(1, "f"), of(1, "f", count(0, 1, 1)), of(2, "fa", in(0, 1, 1), count(1, 5, 5))} {
		if longer, e := batch.Works(j, s, []int{0}); !equal(longer, more(j, out(0, 0, 1, 1))) || e != api.OK {
			t.Error(j, longer, e)
		}
	}
}

// P9.16: each order has taken as much as it has works.
func TestTaken(t *testing.T) {
	d := dice(5)
	met := 0
	for range 1000 {
		s, plan := d.shop(2, 4, 6)
		j := of(4, []string{"ff", "fa", "af", "aa"}[d.roll(0, 3)])
		for bin := range 2 {
			for range 2 {
				n := d.roll(0, 5)
				j.Moves = append(j.Moves, in(bin, n, min(5, n+d.once(2))))
			}
		}
		longer := must[api.Journal](t)(batch.Works(j, s, plan))
		if !must[bool](t)(batch.Stands(longer)) {
			continue
		}
		met++
		for x := range truths(longer) {
			for i, has := range x.has {
				if i < len(s.Tasks) && has.sum() != len(s.Tasks[i].Works) || i >= len(s.Tasks) && has.sum() > 0 {
					t.Fatal(longer, s, plan, x)
				}
			}
		}
		for i, tsk := range s.Tasks {
			most := 0
			for b := range batchesOf(longer) {
				r := must[api.Range](t)(batch.Amount(longer, i, b))
				most += r.Max
			}
			if most < len(tsk.Works) {
				t.Fatal(longer, s, plan, i, most)
			}
		}
	}
	if met < 300 {
		t.Error("too rare", met)
	}
}
