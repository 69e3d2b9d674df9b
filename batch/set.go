package batch

import (
	"iter"
	"math/bits"

	"musette/api"
)

// batchSet is some of the batches: a bit for each one.
type batchSet uint8

// has tells whether a batch is in the set.
func (s batchSet) has(batch int) bool { return s.meets(1 << batch) }

// meets tells whether one of some batches is in the set.
func (s batchSet) meets(others batchSet) bool { return s&others != 0 }

// above tells whether more than so many batches are in the set.
func (s batchSet) above(number int) bool { return bits.OnesCount8(uint8(s)) > number }

// instrumentSet is some of the instruments: a bit for each one.
type instrumentSet uint8

// found is which instruments are bad, and which are good; nothing is known of the others.
type found struct{ bad, good instrumentSet }

// explains tells whether all bad instruments are in the set, and no good one.
func (s instrumentSet) explains(f found) bool { return s&f.bad == f.bad && s&f.good == 0 }

// setOf returns the set of some numbers.
func setOf[S ~uint8](numbers []int) S {
	var s S
	for _, n := range numbers {
		s |= 1 << n
	}
	return s
}

// subsets is how many sets of batches or of instruments there can be.
const subsets = 1 << max(api.MaxBatches, api.MaxInstruments)

// choices is which sets there may be: a bit for each one.
type choices[S ~uint8] uint16

// empty is the choice of the empty set alone.
const empty = 1

// all hands out the sets.
func (c choices[S]) all() iter.Seq[S] {
	return func(yield func(S) bool) {
		for s := S(0); s < subsets; s++ {
			if c&(1<<s) != 0 && !yield(s) {
				return
			}
		}
	}
}

// with returns the sets after something came to each of them.
func (c choices[S]) with(more S) choices[S] {
	var grown choices[S]
	for s := range c.all() {
		grown |= 1 << (s | more)
	}
	return grown
}
