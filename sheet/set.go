package sheet

import (
	"iter"
	"math/bits"
)

// set is a list of blanks: it holds the places that they have in the list of all, whose order stays.
type set uint

// allOf returns the list of so many blanks.
func allOf(number int) set { return 1<<number - 1 }

// with returns a list with one blank more.
func (s set) with(place int) set { return s | 1<<place }

// without returns the blanks of a list that are not in another one.
func (s set) without(other set) set { return s &^ other }

// count returns how many blanks are in a list.
func (s set) count() int { return bits.OnesCount(uint(s)) }

// first returns the first blank of a list that has one.
func (s set) first() int { return bits.TrailingZeros(uint(s)) }

// splits tells whether some blanks of a group are in a list, but not all.
func (s set) splits(group set) bool { return s&group != 0 && group.without(s) != 0 }

// parts hands out all lists of some blanks of a list, but not of all, in ascending order of their numbers, which rise as the sums do that the places in the list make.
func (s set) parts() iter.Seq[set] {
	return func(yield func(set) bool) {
		for part := set(1); part < s; part++ {
			if part.without(s) == 0 && !yield(part) {
				return
			}
		}
	}
}
