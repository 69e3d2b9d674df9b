package voice

import (
	"iter"
	"math/bits"
)

// set is a set of tongues. Lesser numbers have greater bits, so that of two sets that are as large the greater number is the one that is first in lexicographic order.
type set uint8

// room is how many tongues there can be in a set.
const room = 8

// of returns the set of one tongue, or an empty one for none.
func of(tongue int) set {
	if tongue == none {
		return 0
	}
	return 1 << (room - 1 - tongue)
}

// size returns how many tongues are in a set.
func (s set) size() int { return bits.OnesCount8(uint8(s)) }

// has tells whether a tongue is in a set; none never is.
func (s set) has(tongue int) bool { return s.meets(of(tongue)) }

// meets tells whether two sets have a tongue in common.
func (s set) meets(other set) bool { return s&other != 0 }

// with returns a set with a tongue, too.
func (s set) with(tongue int) set { return s | of(tongue) }

// tongues returns the tongues of a set, ascending.
func (s set) tongues() []int {
	var list []int
	for tongue := range room {
		if s.has(tongue) {
			list = append(list, tongue)
		}
	}
	return list
}

// sets yields all sets of tongues below a limit, those that are as large in lexicographic order.
func sets(limit int) iter.Seq[set] {
	return func(yield func(set) bool) {
		for number := 1<<limit - 1; number >= 0; number-- {
			if !yield(set(number << (room - limit))) {
				return
			}
		}
	}
}
