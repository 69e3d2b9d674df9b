package hand

import (
	"iter"
	"math/bits"
	"slices"

	"musette/api"
)

// set is some hands: a bit for each one.
type set uint8

// setOf returns the hands of a list.
func setOf(hands []int) set {
	var s set
	for _, hand := range hands {
		s = s.with(hand)
	}
	return s
}

// everybody returns all of so many hands.
func everybody(hands int) set { return 1<<hands - 1 }

// has tells whether a hand is one of them.
func (s set) has(hand int) bool { return s&(1<<hand) != 0 }

// with returns them and another hand.
func (s set) with(hand int) set { return s | 1<<hand }

// size returns how many they are.
func (s set) size() int { return bits.OnesCount8(uint8(s)) }

// each hands them out, ascending.
func (s set) each(yield func(int) bool) {
	for hand := range api.MaxHands {
		if s.has(hand) && !yield(hand) {
			return
		}
	}
}

// list returns them, ascending.
func (s set) list() []int { return slices.Collect(s.each) }

// listsOf hands out all lists of so many hands, in lexicographic order.
func listsOf(hands int) iter.Seq[set] {
	return func(yield func(set) bool) {
		var extend func(s set, from int) bool
		extend = func(s set, from int) bool {
			if !yield(s) {
				return false
			}
			for hand := from; hand < hands; hand++ {
				if !extend(s.with(hand), hand+1) {
					return false
				}
			}
			return true
		}
		extend(0, 0)
	}
}
