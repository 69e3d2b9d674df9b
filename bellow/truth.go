package bellow

import (
	"iter"

	"musette/api"
)

// leaks is how much each corner leaks per second; corners that a bellows does not have leak nothing.
type leaks [api.MaxCorners]int

// sum returns how much all corners leak together.
func (l leaks) sum() int {
	sum := 0
	for _, leak := range l {
		sum += leak
	}
	return sum
}

// passes tells whether a test of the corners can have come out as it did.
func (l leaks) passes(t api.Leakage) bool {
	var open leaks
	for _, corner := range t.Open {
		open[corner] = l[corner]
	}
	lost := t.Seconds * open.sum()
	return t.Lost.Min <= lost && lost <= t.Lost.Max
}

// truths yields the leaks of all truths of a valid bellows.
func truths(b api.Bellow) iter.Seq[leaks] {
	return func(yield func(leaks) bool) {
	search:
		for l := range within(b.Corners) {
			for _, t := range b.Tests {
				if !l.passes(t) {
					continue search
				}
			}
			if !yield(l) {
				return
			}
		}
	}
}

// within yields all leaks within the ranges of corners, whatever tests have shown.
func within(corners []api.Range) iter.Seq[leaks] {
	return func(yield func(leaks) bool) {
		extend(corners, leaks{}, 0, yield)
	}
}

// extend gives all leaks to a function that are as some leaks up to a corner, until the function returns false; it tells whether it never did.
func extend(corners []api.Range, l leaks, corner int, yield func(leaks) bool) bool {
	if corner == len(corners) {
		return yield(l)
	}
	for l[corner] = corners[corner].Min; l[corner] <= corners[corner].Max; l[corner]++ {
		if !extend(corners, l, corner+1, yield) {
			return false
		}
	}
	return true
}

// sums sends how much all corners of a valid bellows leak together in each of its truths, if some of them are mended after the tests, and closes the channel.
func sums(b api.Bellow, mended []int) <-chan int {
	sent := make(chan int)
	go func() {
		defer close(sent)
		for l := range truths(b) {
			for _, corner := range mended {
				l[corner] = 0
			}
			sent <- l.sum()
		}
	}()
	return sent
}
