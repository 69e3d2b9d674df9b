package bench

import (
	"slices"

	"musette/api"
)

// longest returns the longest way from each turn on: for how many hours works are done in the worst case that have to wait for each other, from the one whose turn it is to the last one.
func (p schedule) longest() map[turn]int {
	ways := map[turn]int{}
	for _, x := range slices.Backward(p.stints()) {
		way := x.Hours.Max + max(ways[x.ofOrder.after()], ways[x.ofBench.after()])
		ways[x.ofOrder], ways[x.ofBench] = way, way
	}
	return ways
}

// slacks returns for each place of the plan by how many hours longer its work could take such that the last end is no later.
func (p schedule) slacks() []int {
	var list []int
	ways := p.longest()
	last := p.last(worstCase())
	spans, _ := p.run(worstCase())
	for place, x := range p.stints() {
		list = append(list, last-spans[place].begin-ways[x.ofOrder])
	}
	return list
}

// need is what the works on a bench need in the worst case: the hours before them, theirs, and those after them.
type need struct{ before, hours, after int }

// with returns the need with one work more. Each work takes an hour at least, so that a need without hours is that of no work.
func (n need) with(work need) need {
	if n.hours > 0 {
		work.before, work.after = min(work.before, n.before), min(work.after, n.after)
	}
	work.hours += n.hours
	return work
}

// bound returns an hour below which no plan of a valid shop ends in the worst case.
func bound(s api.Shop) int {
	bound := 0
	var needs [api.MaxBenches]need
	for _, t := range s.Tasks {
		end := t.Ready
		for _, w := range t.Works {
			end += w.Hours.Max
		}
		bound = max(bound, end)
		begin := t.Ready
		for _, w := range t.Works {
			hours := w.Hours.Max
			needs[w.Bench] = needs[w.Bench].with(need{begin, hours, end - begin - hours})
			begin += hours
		}
	}
	for _, n := range needs {
		bound = max(bound, n.before+n.hours+n.after)
	}
	return bound
}
