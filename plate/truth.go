package plate

import (
	"iter"
	"slices"

	"musette/api"
)

// unseen is the look of a feature that is lost.
const unseen = 0

// looks is what each feature looks like; one that the catalogue does not have is as one that is lost.
type looks [api.MaxFeatures]int

// looksOf returns looks that are in a list.
func looksOf(list []int) looks {
	var l looks
	copy(l[:], list)
	return l
}

// changed tells whether a feature is seen, and not as it was new.
func (l looks) changed(feature int, made looks) bool {
	return l[feature] != unseen && l[feature] != made[feature]
}

// changes returns how many features are seen, and not as they were new.
func (l looks) changes(made looks) int {
	number := 0
	for feature := range l {
		if l.changed(feature, made) {
			number++
		}
	}
	return number
}

// only returns the looks of some features alone.
func (l looks) only(features []int) looks {
	var some looks
	for _, feature := range features {
		some[feature] = l[feature]
	}
	return some
}

// edition is a model as it was made in a year.
type edition struct {
	model, year int
	looks       looks
	numbers     api.Range
}

// editions hands out all models of a valid catalogue as they were made in each year, in order.
func editions(c api.Catalogue) iter.Seq[edition] {
	return func(yield func(edition) bool) {
		for model, m := range c.Models {
			for at, list := range m.Looks {
				if !yield(edition{model, m.First + at, looksOf(list), m.Numbers[at]}) {
					return
				}
			}
		}
	}
}

// truths hands out all truths of a valid instrument, in order.
func truths(c api.Catalogue, o api.Old) iter.Seq[edition] {
	seen := looksOf(o.Seen)
	return func(yield func(edition) bool) {
		for x := range editions(c) {
			if seen.changes(x.looks) <= o.Changed && x.fits(o.Plate) && !yield(x) {
				return
			}
		}
	}
}

// truthsOf returns all truths of an instrument, or the errors of Fits.
func truthsOf(c api.Catalogue, o api.Old) ([]edition, api.Errno) {
	if e := Valid(c, o); e != api.OK {
		return nil, e
	}
	list := slices.Collect(truths(c, o))
	if len(list) == 0 {
		return nil, api.ErrAgainst
	}
	return list, api.OK
}

// possible tells whether a valid instrument has a truth.
func possible(c api.Catalogue, o api.Old) bool {
	for range truths(c, o) {
		return true
	}
	return false
}

// digits is how many digits a plate has, unread stands for one that cannot be read.
const (
	digits = 4
	unread = '?'
)

// bears tells whether a plate can have had a number; an empty one can have had any.
func bears(plate string, number int) bool {
	place := (api.MaxPlate + 1) / 10
	for _, digit := range plate {
		if digit != unread && int(digit-'0') != number/place%10 {
			return false
		}
		place /= 10
	}
	return true
}

// borne hands out all numbers of an edition that a plate can have had, ascending.
func (x edition) borne(plate string) iter.Seq[int] {
	return func(yield func(int) bool) {
		for number := x.numbers.Min; number <= x.numbers.Max; number++ {
			if bears(plate, number) && !yield(number) {
				return
			}
		}
	}
}

// fits tells whether a plate fits an edition.
func (x edition) fits(plate string) bool {
	for range x.borne(plate) {
		return true
	}
	return false
}

// alike tells whether two models of a valid catalogue look alike in some years.
func alike(c api.Catalogue, one, other int) bool {
	for x := range editions(c) {
		for y := range editions(c) {
			if x.model == one && y.model == other && x.looks == y.looks {
				return true
			}
		}
	}
	return false
}

// distinct returns all numbers that there are in truths, ascending.
func distinct(list []edition, number func(edition) int) []int {
	var numbers []int
	for _, x := range list {
		numbers = append(numbers, number(x))
	}
	slices.Sort(numbers)
	return slices.Compact(numbers)
}

// spanOf returns the range from the least to the greatest of some numbers.
func spanOf(numbers []int) api.Range {
	return api.Range{Min: slices.Min(numbers), Max: slices.Max(numbers)}
}

// verdict tells in which truths something is so.
func verdict(list []edition, so func(edition) bool) int {
	not := func(x edition) bool { return !so(x) }
	switch {
	case !slices.ContainsFunc(list, not):
		return api.Always
	case !slices.ContainsFunc(list, so):
		return api.Never
	}
	return api.Either
}
