package plate

import (
	"iter"
	"math/bits"

	"musette/api"
)

// remaining is which truths of an instrument are left: a bit for each one.
type remaining uint32

// with returns the truths that are left, and another one.
func (r remaining) with(truth int) remaining { return r | 1<<truth }

// number returns how many truths are left.
func (r remaining) number() int { return bits.OnesCount32(uint32(r)) }

// each hands out the truths that are left, ascending.
func (r remaining) each() iter.Seq[int] {
	return func(yield func(int) bool) {
		for truth := range api.MaxModels * api.MaxMade {
			if r&(1<<truth) != 0 && !yield(truth) {
				return
			}
		}
	}
}

// inquiry is about an instrument: what it can be, and which features are lost, so that somebody can find out about them.
type inquiry struct {
	truths []edition
	lost   []int
}

// inquiryOf returns the inquiry about an instrument, or the errors of Fits.
func inquiryOf(c api.Catalogue, o api.Old) (inquiry, api.Errno) {
	list, e := truthsOf(c, o)
	if e != api.OK {
		return inquiry{}, e
	}
	q := inquiry{truths: list}
	for feature, look := range o.Seen {
		if look == unseen {
			q.lost = append(q.lost, feature)
		}
	}
	return q, api.OK
}

// all returns all truths, of which nothing was found out yet.
func (q inquiry) all() remaining { return 1<<len(q.truths) - 1 }

// parts returns which truths are left by each look of a feature.
func (q inquiry) parts(r remaining, feature int) [api.MaxValue + 1]remaining {
	var parts [api.MaxValue + 1]remaining
	for truth := range r.each() {
		look := q.truths[truth].looks[feature]
		parts[look] = parts[look].with(truth)
	}
	return parts
}

// worst returns the greatest number that there is of the truths that a look of a feature leaves.
func (q inquiry) worst(r remaining, feature int, number func(remaining) int) int {
	most := 0
	for _, part := range q.parts(r, feature) {
		if part != 0 {
			most = max(most, number(part))
		}
	}
	return most
}

// next returns the lost feature that leaves the fewest truths at worst, and how many these are.
func (q inquiry) next() (feature, left int) {
	return leastOf(q.lost, func(feature int) int { return q.worst(q.all(), feature, remaining.number) })
}

// telling returns the lost features of which any look rules out a truth.
func (q inquiry) telling(r remaining) []int {
	var features []int
	for _, feature := range q.lost {
		if q.worst(r, feature, remaining.number) < r.number() {
			features = append(features, feature)
		}
	}
	return features
}

// sure tells whether only truths of one model are left.
func (q inquiry) sure(r remaining) bool {
	model := -1
	for truth := range r.each() {
		if model >= 0 && q.truths[truth].model != model {
			return false
		}
		model = q.truths[truth].model
	}
	return true
}

// enough tells whether the model is sure as soon as all lost features are known: no two models look alike in all of them.
func (q inquiry) enough() bool {
	models := map[looks]int{}
	for _, x := range q.truths {
		look := x.looks.only(q.lost)
		if model, there := models[look]; there && model != x.model {
			return false
		}
		models[look] = x.model
	}
	return true
}

// decides returns about how many features somebody has to find out at worst until the model is sure; all of them must be enough, since then there is always one that tells something.
func (q inquiry) decides() int {
	known := map[remaining]int{}
	var needed func(r remaining) int
	needed = func(r remaining) int {
		if q.sure(r) {
			return 0
		}
		if number, there := known[r]; there {
			return number
		}
		_, number := leastOf(q.telling(r), func(feature int) int { return q.worst(r, feature, needed) })
		known[r] = number + 1
		return known[r]
	}
	return needed(q.all())
}

// leastOf returns the first of several for which a number is the least one, and this number.
func leastOf[T any](list []T, number func(T) int) (item T, least int) {
	for i, x := range list {
		if n := number(x); i == 0 || n < least {
			item, least = x, n
		}
	}
	return item, least
}
