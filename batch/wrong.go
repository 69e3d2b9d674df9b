package batch

import (
	"iter"
	"slices"

	"musette/api"
)

// Wrong returns the fewest counts without which a journal stands.
func Wrong(j api.Journal) ([]int, api.Errno) {
	if e := Check(j); e != api.OK {
		return nil, e
	}
	counts := countsOf(j)
	if !stands(without(j, counts)) {
		return nil, api.ErrAgainst
	}
	var wrong []int
search:
	for size := range len(counts) + 1 {
		for list := range lists(counts, size) {
			if stands(without(j, list)) {
				wrong = list
				break search
			}
		}
	}
	return wrong, api.OK
}

// countsOf returns the numbers of all moves of a journal that count.
func countsOf(j api.Journal) []int {
	var counts []int
	for i, m := range j.Moves {
		if m.Kind == api.MoveCount {
			counts = append(counts, i)
		}
	}
	return counts
}

// without returns a journal without some moves.
func without(j api.Journal, list []int) api.Journal {
	var moves []api.Move
	for i, m := range j.Moves {
		if !slices.Contains(list, i) {
			moves = append(moves, m)
		}
	}
	j.Moves = moves
	return j
}

// lists hands out all lists of so many of some numbers, in lexicographic order.
func lists(numbers []int, size int) iter.Seq[[]int] {
	return func(yield func([]int) bool) {
		var grow func(list, left []int) bool
		grow = func(list, left []int) bool {
			if len(list) == size {
				return yield(list)
			}
			for i, n := range left {
				if !grow(append(slices.Clone(list), n), left[i+1:]) {
					return false
				}
			}
			return true
		}
		grow(nil, numbers)
	}
}
