package rod

import (
	"iter"
	"slices"

	"musette/api"
)

// hands yields all hands for a machine, in their order.
func hands(m api.Machine) iter.Seq[api.Hand] {
	return func(yield func(api.Hand) bool) {
		for buttons := range lists(len(m.Buttons), len(m.Buttons)) {
			for on := range lists(m.Registers, m.Registers) {
				if !yield(api.Hand{Buttons: buttons, On: on}) {
					return
				}
			}
		}
	}
}

// lists yields all ascending lists of at most so many numbers below a limit: shorter ones first, those with as many numbers in lexicographic order.
func lists(most, limit int) iter.Seq[[]int] {
	return func(yield func([]int) bool) {
		for number := range most + 1 {
			if !extend(nil, number, limit, yield) {
				return
			}
		}
	}
}

// extend gives all ascending lists to a function that begin with a list and have so many more numbers below a limit, in lexicographic order, until the function returns false; it tells whether it never did.
func extend(list []int, more, limit int, yield func([]int) bool) bool {
	if more == 0 {
		return yield(slices.Clone(list))
	}
	from := 0
	if len(list) > 0 {
		from = list[len(list)-1] + 1
	}
	for n := from; n < limit; n++ {
		if !extend(append(list, n), more-1, limit, yield) {
			return false
		}
	}
	return true
}
