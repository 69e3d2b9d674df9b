package bench

import (
	"iter"
	"slices"

	"musette/api"
)

// plans hands out all plans of a valid shop, in lexicographic order.
func plans(s api.Shop) iter.Seq[[]int] {
	return func(yield func([]int) bool) {
		all := allDone(s)
		var grow func(plan []int, done tally) bool
		grow = func(plan []int, done tally) bool {
			if done == all {
				return yield(slices.Clone(plan))
			}
			for order := range s.Tasks {
				if done[order] == all[order] {
					continue
				}
				if !grow(append(plan, order), done.with(next(s, done, order))) {
					return false
				}
			}
			return true
		}
		grow(nil, tally{})
	}
}

// only hands out those things that are as asked for.
func only[T any](things iter.Seq[T], asked func(T) bool) iter.Seq[T] {
	return func(yield func(T) bool) {
		for thing := range things {
			if asked(thing) && !yield(thing) {
				return
			}
		}
	}
}

// firstBest returns the first of those things that cost least, and what it costs.
func firstBest[T any](things iter.Seq[T], cost func(T) int) (best T, least int) {
	found := false
	for thing := range things {
		if price := cost(thing); !found || price < least {
			best, least, found = thing, price, true
		}
	}
	return best, least
}

// without returns the plan of all orders but one.
func without(plan []int, order int) []int {
	var rest []int
	for _, other := range plan {
		if other != order {
			rest = append(rest, other)
		}
	}
	return rest
}
