package meter

import (
	"iter"
	"slices"

	"musette/api"
)

// cycle is how many hundredths of a hertz make a cycle per second.
const cycle = 100

// tones is a tone of each tongue; tongues that an ear does not have are at 0.
type tones [api.MaxTones]int

// distance returns how far the tones of two tongues are from each other.
func (t tones) distance(a, b int) int { return max(t[a]-t[b], t[b]-t[a]) }

// sense is a reading of some kind: of which tones it is true, and the first and the last outcome that it can have with some tones if it is not made yet.
type sense interface {
	isTrue(t tones) bool
	shows(t tones) api.Range
}

// The kinds of readings.
type (
	count struct {
		api.Reading
		slack int
	}
	beat   struct{ api.Reading }
	higher struct{ api.Reading }
)

// senseOf returns a valid reading as one of its kind.
func senseOf(r api.Reading, slack int) sense {
	switch r.Kind {
	case api.ReadCount:
		return count{r, slack}
	case api.ReadBeat:
		return beat{r}
	}
	return higher{r}
}

func (r count) isTrue(t tones) bool {
	counted, off := t[r.A]*r.Seconds, 1+r.slack
	return counted > cycle*(r.Shown.Min-off) && counted < cycle*(r.Shown.Max+off)
}

// shows: what is shown differs from the cycles by less than 1 and the slack together, so that its ends are the cycles, rounded down or up, and the slack.
func (r count) shows(t tones) api.Range {
	counted := t[r.A] * r.Seconds
	down, up := counted/cycle, (counted+cycle-1)/cycle
	return api.Range{Min: max(down-r.slack, 0), Max: min(up+r.slack, api.MaxShown)}
}

func (r beat) isTrue(t tones) bool {
	beaten := t.distance(r.A, r.B) * r.Seconds
	return beaten >= cycle*r.Shown.Min && beaten <= cycle*r.Shown.Max
}

func (r beat) shows(t tones) api.Range {
	beats := t.distance(r.A, r.B) * r.Seconds / cycle
	return api.Range{Min: beats, Max: beats}
}

func (r higher) isTrue(t tones) bool { return t[r.A] > t[r.B] }

// shows: 1 if it is higher, 0 if it is not.
func (r higher) shows(t tones) api.Range {
	if r.isTrue(t) {
		return api.Range{Min: 1, Max: 1}
	}
	return api.Range{}
}

// choices yields all tones within the ranges of a valid ear, whatever was read.
func choices(e api.Ear) iter.Seq[tones] {
	var ranges [api.MaxTones]api.Range
	copy(ranges[:], e.Tones)
	return func(yield func(tones) bool) {
		for a := ranges[0].Min; a <= ranges[0].Max; a++ {
			for b := ranges[1].Min; b <= ranges[1].Max; b++ {
				for c := ranges[2].Min; c <= ranges[2].Max; c++ {
					if !yield(tones{a, b, c}) {
						return
					}
				}
			}
		}
	}
}

// truths yields all truths of a valid ear.
func truths(e api.Ear) iter.Seq[tones] {
	var senses []sense
	for _, r := range e.Readings {
		senses = append(senses, senseOf(r, e.Slack))
	}
	return func(yield func(tones) bool) {
	search:
		for t := range choices(e) {
			for _, s := range senses {
				if !s.isTrue(t) {
					continue search
				}
			}
			if !yield(t) {
				return
			}
		}
	}
}

// possible tells whether a valid ear has a truth.
func possible(e api.Ear) bool {
	for range truths(e) {
		return true
	}
	return false
}

// together returns all tones that some tongues have together in the truths of a valid ear; other tongues are at 0.
func together(e api.Ear, tongues ...int) map[tones]bool {
	met := map[tones]bool{}
	for t := range truths(e) {
		var own tones
		for _, tongue := range tongues {
			own[tongue] = t[tongue]
		}
		met[own] = true
	}
	return met
}

// valuesOf returns all tones that a tongue of a valid ear has in its truths, ascending.
func valuesOf(e api.Ear, tongue int) []int {
	var values []int
	for t := range together(e, tongue) {
		values = append(values, t[tongue])
	}
	slices.Sort(values)
	return values
}

// verdict returns in which of several cases something is so.
func verdict[T any](cases iter.Seq[T], so func(T) bool) int {
	yes, no := false, false
	for c := range cases {
		is := so(c)
		yes, no = yes || is, no || !is
	}
	switch {
	case !no:
		return api.Always
	case !yes:
		return api.Never
	}
	return api.Either
}
