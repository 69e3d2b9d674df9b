package wax

import (
	"iter"
	"slices"
)

// unseen returns for how many weeks a failure in one of some weeks can be unseen; a joint that stays is as one that fails in the week after the last one, which is unseen for none.
func unseen(failures weeks, looks []int, number int) int {
	longest := 0
	for failure := range failures.each() {
		seen := number
		if next, _ := slices.BinarySearch(looks, failure); next < len(looks) {
			seen = looks[next]
		}
		longest = max(longest, seen-failure)
	}
	return longest
}

// fewest returns the first of the shortest lists of numbers below a limit that are enough; all of them are.
func fewest(limit int, enough func(list []int) bool) []int {
	var found []int
search:
	for length := range limit + 1 {
		for list := range lists(limit, length) {
			if enough(list) {
				found = slices.Clone(list)
				break search
			}
		}
	}
	return found
}

// lists hands out all lists of so many ascending numbers below a limit, in lexicographic order. They share their memory.
func lists(limit, length int) iter.Seq[[]int] {
	return func(yield func([]int) bool) {
		list := make([]int, 0, length)
		var longer func(from int) bool
		longer = func(from int) bool {
			if len(list) == length {
				return yield(list)
			}
			for n := from; n < limit; n++ {
				list = append(list, n)
				if !longer(n + 1) {
					return false
				}
				list = list[:len(list)-1]
			}
			return true
		}
		longer(0)
	}
}
