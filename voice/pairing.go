package voice

import (
	"iter"
	"slices"

	"musette/api"
)

// none is what a pairing has for a lower tongue without an upper one.
const none = -1

// best is the first of those things that cost least.
type best[T any] struct {
	thing T
	cost  int
	found bool
}

// offer keeps a thing if it is better than what was offered before.
func (b *best[T]) offer(thing T, cost int) {
	if !b.reached(cost) {
		*b = best[T]{thing, cost, true}
	}
}

// reached tells whether a thing of this cost is no better than what was offered before.
func (b *best[T]) reached(cost int) bool { return b.found && b.cost <= cost }

// cheapest returns the first pairing of those that cost least. The price is what an upper tongue, or none, costs for a lower one; what has no price may not be.
func cheapest(lows, highs int, price func(low, high int) (int, bool)) best[[]int] {
	var kept best[[]int]
	pairing := make([]int, lows)
	var extend func(low int, taken set, cost int)
	extend = func(low int, taken set, cost int) {
		if low == lows {
			kept.offer(slices.Clone(pairing), cost)
			return
		}
	choices:
		for high := range choices(highs) {
			more, ok := price(low, high)
			switch {
			case kept.reached(cost):
				break choices // what comes later would have to cost less
			case taken.has(high) || !ok:
				continue choices
			}
			pairing[low] = high
			extend(low+1, taken.with(high), cost+more)
		}
	}
	extend(0, 0, 0)
	return kept
}

// choices yields what a pairing can have for a lower tongue, in its order: none comes last.
func choices(highs int) iter.Seq[int] {
	return func(yield func(int) bool) {
		for high := range highs {
			if !yield(high) {
				return
			}
		}
		yield(none)
	}
}

// fullest returns the first pairing with the most pairs that have one of these verdicts; it costs as much as it leaves lower tongues alone.
func fullest(b api.Box, verdicts ...int) best[[]int] {
	table := verdictsOf(b)
	return cheapest(len(b.Lows), len(b.Highs), func(low, high int) (int, bool) {
		if high == none {
			return 1, true
		}
		return 0, slices.Contains(verdicts, table[low][high])
	})
}

// verdictsOf returns for each lower and each upper tongue of a valid box whether they keep the law.
func verdictsOf(b api.Box) [][]int {
	table := make([][]int, len(b.Lows))
	for low := range b.Lows {
		for high := range b.Highs {
			d := pair(b, low, high)
			table[low] = append(table[low], d.verdict(d.low, d.high))
		}
	}
	return table
}

// fewest returns the first of the least sets of lower tongues of a valid box that have fewer upper ones than they are.
func fewest(b api.Box) best[set] {
	var kept best[set]
	suitors := make([]set, len(b.Highs))
	for low, verdicts := range verdictsOf(b) {
		for high, verdict := range verdicts {
			if verdict == api.Always {
				suitors[high] = suitors[high].with(low)
			}
		}
	}
	for lows := range sets(len(b.Lows)) {
		if count(suitors, lows.meets) < lows.size() {
			kept.offer(lows, lows.size())
		}
	}
	return kept
}

// count returns how many things are as asked for.
func count[T any](list []T, asked func(T) bool) int {
	number := 0
	for _, thing := range list {
		if asked(thing) {
			number++
		}
	}
	return number
}
