package batch

import (
	"cmp"
	"slices"

	"musette/api"
	"musette/bench"
)

// Works returns a journal with the moves that the works of a plan make.
func Works(j api.Journal, s api.Shop, plan []int) (api.Journal, api.Errno) {
	if e := Check(j); e != api.OK {
		return api.Journal{}, e
	}
	slots, e := bench.Run(s, plan)
	if e != api.OK {
		return api.Journal{}, e
	}
	if e := first(checkSlots(j, slots), checkMost(len(j.Moves)+len(slots), api.MaxMoves)); e != api.OK {
		return api.Journal{}, e
	}
	j.First = slices.Clone(j.First)
	j.Moves = slices.Clone(j.Moves)
	for _, x := range beginning().sorted(slots) {
		one := api.Range{Min: 1, Max: 1}
		j.Moves = append(j.Moves, api.Move{Kind: api.MoveOut, Bin: x.Bench, Instrument: x.Task, Amount: one})
	}
	return j, api.OK
}

// checkSlots returns the first error of the works of a plan that take something out of the bins of a journal.
func checkSlots(j api.Journal, slots []api.Slot) api.Errno {
	for _, x := range slots {
		if e := first(checkNumber(x.Bench, len(j.First)), checkNumber(x.Task, j.Instruments)); e != api.OK {
			return e
		}
	}
	return api.OK
}

// queue is an order in which works come; those that come at once stay as they are.
type queue struct {
	compare func(a, b api.Slot) int
}

// beginning returns the order in which works begin in the worst case.
func beginning() queue {
	return queue{func(a, b api.Slot) int { return cmp.Compare(a.Begin.Max, b.Begin.Max) }}
}

// sorted returns works in this order.
func (q queue) sorted(slots []api.Slot) []api.Slot {
	return slices.SortedStableFunc(slices.Values(slots), q.compare)
}
