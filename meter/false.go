package meter

import (
	"slices"

	"musette/api"
)

// False returns the fewest readings without which there is a truth.
func False(e api.Ear) ([]int, api.Errno) {
	if x := Check(e); x != api.OK {
		return nil, x
	}
	return fewest(e)[0], api.OK
}

// Doubted returns for each reading whether it is one of the fewest without which there is a truth.
func Doubted(e api.Ear) ([]int, api.Errno) {
	if x := Check(e); x != api.OK {
		return nil, x
	}
	all := slices.Values(fewest(e))
	var verdicts []int
	for reading := range e.Readings {
		verdicts = append(verdicts, verdict(all, func(list []int) bool { return slices.Contains(list, reading) }))
	}
	return verdicts, api.OK
}

// fewest returns all lists of the fewest readings of a valid ear without which there is a truth, in lexicographic order. There always is one: without any reading all tones are possible.
func fewest(e api.Ear) [][]int {
	var found [][]int
	for number := 0; len(found) == 0; number++ {
		for _, list := range lists(len(e.Readings), number) {
			if possible(without(e, list)) {
				found = append(found, list)
			}
		}
	}
	return found
}

// lists returns all ascending lists of so many of the numbers below a limit, in lexicographic order.
func lists(limit, number int) [][]int {
	var all [][]int
	var extend func(list []int, from int)
	extend = func(list []int, from int) {
		if len(list) == number {
			all = append(all, slices.Clone(list))
			return
		}
		for n := from; n < limit; n++ {
			extend(append(list, n), n+1)
		}
	}
	extend(nil, 0)
	return all
}

// without returns an ear without some of its readings.
func without(e api.Ear, list []int) api.Ear {
	var rest []api.Reading
	for i, r := range e.Readings {
		if !slices.Contains(list, i) {
			rest = append(rest, r)
		}
	}
	e.Readings = rest
	return e
}
