package bench

import (
	"errors"
	"slices"

	"musette/api"
)

// schedule is a shop, and a plan of it.
type schedule struct {
	api.Shop
	plan []int
}

// scheduled returns a schedule, or the error of its shop, or of its plan.
func scheduled(s api.Shop, plan []int) (schedule, api.Errno) {
	if e := Check(s); e != api.OK {
		return schedule{}, e
	}
	p := schedule{s, plan}
	var wrong wrongPlan
	if errors.As(p.check(), &wrong) {
		return schedule{}, wrong.why
	}
	return p, api.OK
}

// outlook is a case: how many of the hours of a work it takes then.
type outlook struct{ hours func(api.Range) int }

// bestCase is the case in which each work takes the least number of hours.
func bestCase() outlook {
	return outlook{hours: func(r api.Range) int { return r.Min }}
}

// worstCase is the case in which each work takes the greatest number of hours.
func worstCase() outlook {
	return outlook{hours: func(r api.Range) int { return r.Max }}
}

// span is when a work begins and ends in a case.
type span struct{ begin, end int }

// stints returns all works in the order of the plan.
func (p schedule) stints() []stint {
	var list []stint
	var done tally
	for _, order := range p.plan {
		x := next(p.Shop, done, order)
		list = append(list, x)
		done = done.with(x)
	}
	return list
}

// run returns when the works begin and end in a case, and then when each queue does.
func (p schedule) run(c outlook) ([]span, tally) {
	var list []span
	var free tally
	for order, t := range p.Tasks {
		free[order] = t.Ready
	}
	for _, x := range p.stints() {
		begin := free.most(x)
		end := begin + c.hours(x.Hours)
		list = append(list, span{begin, end})
		free = free.set(x, end)
	}
	return list, free
}

// slots returns when the works begin and end in all truths. The longer works take the later all is, so that both ends of each range are in the best and in the worst case.
func (p schedule) slots() []api.Slot {
	soonest, _ := p.run(bestCase())
	latest, _ := p.run(worstCase())
	var list []api.Slot
	for place, x := range p.stints() {
		list = append(list, api.Slot{
			Task:  x.ofOrder.queue,
			Work:  x.ofOrder.number,
			Bench: x.Bench,
			Begin: api.Range{Min: soonest[place].begin, Max: latest[place].begin},
			End:   api.Range{Min: soonest[place].end, Max: latest[place].end},
		})
	}
	return list
}

// endsIn returns when each order ends in a case.
func (p schedule) endsIn(c outlook) []int {
	_, free := p.run(c)
	return slices.Clone(free[:len(p.Tasks)])
}

// ends returns when each order ends in all truths.
func (p schedule) ends() []api.Range {
	soonest, latest := p.endsIn(bestCase()), p.endsIn(worstCase())
	var list []api.Range
	for order := range p.Tasks {
		list = append(list, api.Range{Min: soonest[order], Max: latest[order]})
	}
	return list
}

// last returns when the last work ends in a case.
func (p schedule) last(c outlook) int {
	last := 0
	for _, end := range p.endsIn(c) {
		last = max(last, end)
	}
	return last
}

// late returns how many orders are late in a case.
func (p schedule) late(c outlook) int {
	late := 0
	for order, end := range p.endsIn(c) {
		if end > p.Tasks[order].Due {
			late++
		}
	}
	return late
}
