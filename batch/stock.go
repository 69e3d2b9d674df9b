package batch

import (
	"maps"
	"slices"

	"musette/api"
)

// stocks is what may lie in the bins, each with what is known of the truths in which it does.
type stocks[T known[T]] map[bins]T

// add adds truths in which so much lies in the bins.
func (s stocks[T]) add(lying bins, others T) {
	if truths, there := s[lying]; there {
		others = others.or(truths)
	}
	s[lying] = others
}

// after returns what may lie in the bins after a step.
func (s stocks[T]) after(x step) stocks[T] {
	next := stocks[T]{}
	for lying, truths := range s {
		for left := range x.after(lying) {
			next.add(left, told(truths, x, lying, left))
		}
	}
	return next
}

// told returns what is known of truths after a step that leaves something of what lies in the bins.
func told[T known[T]](truths T, x step, lying, left bins) T {
	switch m := x.(type) {
	case going:
		return tookForAny(truths, m.instruments, lying.without(left))
	case coming, counting: // no instrument gets anything
	}
	return truths
}

// tookForAny returns what is known of truths after something was taken for one of some instruments.
func tookForAny[T known[T]](truths T, instruments []int, taken bins) T {
	all := truths.took(instruments[0], taken)
	for _, instrument := range instruments[1:] {
		all = all.or(truths.took(instrument, taken))
	}
	return all
}

// contradiction is that a journal has no truth: a step that is possible in none.
type contradiction struct{ step }

// follow returns what may lie in the bins at the end of a valid journal, and whether it has a truth.
func follow[T known[T]](j api.Journal, start T) (ends stocks[T], stands bool) {
	defer func() {
		if _, against := recover().(contradiction); against {
			ends, stands = nil, false
		}
	}()
	ends = stocks[T]{bins{}: start}
	for x := range stepsOf(j) {
		ends = ends.mustAfter(x)
	}
	return ends, true
}

// mustAfter returns what may lie in the bins after a step; it panics with a contradiction if nothing may.
func (s stocks[T]) mustAfter(x step) stocks[T] {
	next := s.after(x)
	if len(next) == 0 {
		panic(contradiction{x})
	}
	return next
}

// span returns the range of an amount in all truths.
func (s stocks[T]) span(amount func(bins) int) api.Range {
	var amounts []int
	for lying := range s {
		amounts = append(amounts, amount(lying))
	}
	return widened(api.Range{Min: amounts[0], Max: amounts[0]}, amounts...)
}

// together returns what is known of all truths.
func (s stocks[T]) together() T {
	ends := slices.Collect(maps.Values(s))
	all := ends[0]
	for _, truths := range ends[1:] {
		all = all.or(truths)
	}
	return all
}

// stands tells whether a valid journal has a truth.
func stands(j api.Journal) bool {
	_, stands := follow(j, nothing{})
	return stands
}

// endsOf returns what may lie in the bins at the end of a journal, or its error.
func endsOf(j api.Journal) (stocks[nothing], api.Errno) {
	if e := Check(j); e != api.OK {
		return nil, e
	}
	ends, stands := follow(j, nothing{})
	if !stands {
		return nil, api.ErrAgainst
	}
	return ends, api.OK
}
