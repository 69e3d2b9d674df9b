package meter

import (
	"iter"
	"maps"
	"math/bits"
	"slices"

	"musette/api"
)

// With returns an ear with one more reading.
func With(e api.Ear, r api.Reading) (api.Ear, api.Errno) {
	if x := first(Check(e), checkReading(r, len(e.Tones))); x != api.OK {
		return api.Ear{}, x
	}
	if len(e.Readings) == api.MaxReadings {
		return api.Ear{}, api.ErrMany
	}
	next := api.Ear{Slack: e.Slack, Tones: slices.Clone(e.Tones), Readings: append(slices.Clone(e.Readings), r)}
	if !possible(next) {
		return api.Ear{}, api.ErrAgainst
	}
	return next, api.OK
}

// Worst returns how many truths a reading that is not made yet leaves at most.
func Worst(e api.Ear, r api.Reading) (int, api.Errno) {
	if x := first(Check(e), checkReading(r, len(e.Tones))); x != api.OK {
		return 0, x
	}
	all := slices.Collect(truths(e))
	if len(all) == 0 {
		return 0, api.ErrAgainst
	}
	return mostLeft(senseOf(r, e.Slack), all), api.OK
}

// Best returns the first reading by gates that leaves the fewest truths at most, and how many these are.
func Best(e api.Ear, gates []int) (r api.Reading, left int, x api.Errno) {
	if x := first(Check(e), checkGates(gates)); x != api.OK {
		return api.Reading{}, 0, x
	}
	all := slices.Collect(truths(e))
	if len(all) == 0 {
		return api.Reading{}, 0, api.ErrAgainst
	}
	r, left = cheapest(readingsBy(gates, len(e.Tones)), func(r api.Reading) int { return mostLeft(senseOf(r, e.Slack), all) })
	return r, left, api.OK
}

// Gate returns over how many seconds a tongue has to be counted at least for its tone to be known within a width.
func Gate(e api.Ear, tongue, width int) (int, api.Errno) {
	if x := first(Check(e), checkTongue(tongue, len(e.Tones))); x != api.OK {
		return 0, x
	}
	if width < 0 {
		return 0, api.ErrValue
	}
	met := slices.Collect(maps.Keys(together(e, tongue)))
	if len(met) == 0 {
		return 0, api.ErrAgainst
	}
search:
	for seconds := 1; seconds <= api.MaxSeconds; seconds++ {
		for _, left := range outcomes(senseOf(countOf(tongue, seconds), e.Slack), met) {
			if spread(left, tongue) > width {
				continue search
			}
		}
		return seconds, api.OK
	}
	return 0, api.ErrNone
}

// Needs returns how many readings by gates are needed to know whether the tone of a tongue is in a range.
func Needs(e api.Ear, tongue int, want api.Range, gates []int) (int, api.Errno) {
	if x := first(checkWithin(e, tongue, want), checkGates(gates)); x != api.OK {
		return 0, x
	}
	all := slices.Collect(truths(e))
	if len(all) == 0 {
		return 0, api.ErrAgainst
	}
	var senses []sense
	for _, r := range readingsBy(gates, len(e.Tones)) {
		senses = append(senses, senseOf(r, e.Slack))
	}
	wanted := func(t tones) bool { return holds(want, t[tongue]) }
	// If it is known already, any reading decides.
	byOne := func(left []tones) bool {
		return slices.ContainsFunc(senses, func(s sense) bool { return decides(s, left, wanted) })
	}
	byTwo := func(s sense) bool {
		for _, left := range outcomes(s, all) {
			if !byOne(left) {
				return false
			}
		}
		return true
	}
	switch {
	case verdict(slices.Values(all), wanted) != api.Either:
		return 0, api.OK
	case byOne(all):
		return 1, api.OK
	case slices.ContainsFunc(senses, byTwo):
		return 2, api.OK
	}
	return 0, api.ErrNone
}

// checkGates returns the error of a list of gates.
func checkGates(gates []int) api.Errno {
	if x := checkNumber(len(gates), api.MaxGates); x != api.OK {
		return x
	}
	before := 0
	for _, seconds := range gates {
		if x := checkSeconds(seconds); x != api.OK {
			return x
		}
		if seconds <= before {
			return api.ErrOrder
		}
		before = seconds
	}
	return api.OK
}

// readingsBy returns all readings by gates of so many tongues, in their order.
func readingsBy(gates []int, tongues int) []api.Reading {
	var all []api.Reading
	for tongue := range tongues {
		for _, seconds := range gates {
			all = append(all, countOf(tongue, seconds))
		}
	}
	for a, b := range pairs(tongues) {
		for _, seconds := range gates {
			all = append(all, api.Reading{Kind: api.ReadBeat, A: a, B: b, Seconds: seconds})
		}
	}
	for a, b := range pairs(tongues) {
		all = append(all, api.Reading{Kind: api.ReadHigher, A: a, B: b})
	}
	return all
}

// countOf returns a ReadCount that is not made yet.
func countOf(tongue, seconds int) api.Reading {
	return api.Reading{Kind: api.ReadCount, A: tongue, Seconds: seconds}
}

// pairs yields each two of so many tongues, the lesser one first.
func pairs(tongues int) iter.Seq2[int, int] {
	return func(yield func(int, int) bool) {
		for a := range tongues {
			for b := a + 1; b < tongues; b++ {
				if !yield(a, b) {
					return
				}
			}
		}
	}
}

// cheapest returns the first item that costs least, and what it costs; there is at least one item.
func cheapest[T any](items []T, cost func(T) int) (best T, least int) {
	for i, item := range items {
		c := cost(item)
		if i == 0 || c < least {
			best, least = item, c
		}
	}
	return best, least
}

// outcomes returns which of some truths each outcome of a reading leaves.
func outcomes(s sense, all []tones) map[int][]tones {
	left := map[int][]tones{}
	for _, t := range all {
		shown := s.shows(t)
		for outcome := shown.Min; outcome <= shown.Max; outcome++ {
			left[outcome] = append(left[outcome], t)
		}
	}
	return left
}

// mostLeft returns how many of some truths the outcomes of a reading leave at most.
func mostLeft(s sense, all []tones) int {
	number := 0
	for _, left := range outcomes(s, all) {
		number = max(number, len(left))
	}
	return number
}

// spread returns how far apart the tones of a tongue are in some truths.
func spread(all []tones, tongue int) int {
	least, most := all[0][tongue], all[0][tongue]
	for _, t := range all {
		least, most = min(least, t[tongue]), max(most, t[tongue])
	}
	return most - least
}

// decides tells whether each outcome of a reading leaves truths in all of which something is so, or in none. Needs asks this very often, so outcomes are bits here, which are far faster than a map. No two outcomes share a bit: tones are so little apart (MaxSpread) that all outcomes of a reading lie among fewer than 64 numbers in a row.
func decides(s sense, all []tones, so func(tones) bool) bool {
	var yes, no uint64
	for _, t := range all {
		shown := s.shows(t)
		set := bits.RotateLeft64(1<<(shown.Max-shown.Min+1)-1, shown.Min)
		if so(t) {
			yes |= set
		} else {
			no |= set
		}
		if yes&no != 0 {
			return false
		}
	}
	return true
}
