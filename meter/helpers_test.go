package meter_test

import (
	"iter"
	"math/bits"
	"slices"

	"musette/api"
)

// to returns a range.
func to(least, most int) api.Range { return api.Range{Min: least, Max: most} }

// count returns a ReadCount.
func count(a, seconds, least, most int) api.Reading {
	return api.Reading{Kind: api.ReadCount, A: a, Seconds: seconds, Shown: to(least, most)}
}

// beat returns a ReadBeat.
func beat(a, b, seconds, least, most int) api.Reading {
	return api.Reading{Kind: api.ReadBeat, A: a, B: b, Seconds: seconds, Shown: to(least, most)}
}

// higher returns a ReadHigher.
func higher(a, b int) api.Reading { return api.Reading{Kind: api.ReadHigher, A: a, B: b} }

// plain returns an ear without readings.
func plain(tones ...api.Range) api.Ear { return api.Ear{Tones: tones} }

// heard returns an ear with other readings.
func heard(e api.Ear, readings ...api.Reading) api.Ear {
	e.Readings = readings
	return e
}

// earE returns the ear E of the chapter's examples.
func earE() api.Ear {
	return heard(plain(to(44000, 44010), to(44005, 44015)), count(0, 10, 4400, 4400), beat(0, 1, 20, 2, 2))
}

// earF returns the ear F of the chapter's examples, which has no truth.
func earF() api.Ear { return but(func(e *api.Ear) { e.Readings = append(e.Readings, higher(0, 1)) }) }

// earG returns the ear G of the chapter's examples.
func earG() api.Ear { return plain(to(44000, 44002), to(44000, 44000), to(44001, 44001)) }

// but returns the ear E after a change.
func but(change func(e *api.Ear)) api.Ear {
	e := earE()
	change(&e)
	return e
}

// equal tells whether two ears are the same.
func equal(a, b api.Ear) bool {
	return a.Slack == b.Slack && slices.Equal(a.Tones, b.Tones) && slices.Equal(a.Readings, b.Readings)
}

// isZero tells whether an ear is the zero value, but for empty slices.
func isZero(e api.Ear) bool { return equal(e, api.Ear{}) }

// dice gives numbers that look random but are the same in each run.
type dice uint64

// roll returns a number from least to most.
func (d *dice) roll(least, most int) int {
	*d = *d*6364136223846793005 + 1442695040888963407
	return least + int(uint64(*d)>>33)%(most-least+1)
}

// size says how great the ears of dice are at most.
type size struct{ tongues, width, readings int }

// ear returns a valid ear. Most readings are true of some tones, the same for all, so that most ears have a truth.
func (d *dice) ear(s size) api.Ear {
	base := []int{1, 30, 190, 44000, 99950}[d.roll(0, 4)]
	e := api.Ear{Slack: max(0, d.roll(-2, 3))}
	var tones []int
	for range d.roll(1, s.tongues) {
		least := base + d.roll(0, 12)
		r := to(least, least+d.roll(0, s.width))
		e.Tones = append(e.Tones, r)
		tones = append(tones, d.roll(r.Min, r.Max))
	}
	for range d.roll(0, s.readings) {
		r := d.reading(e, tones)
		for range 20 {
			if isTrue(e.Slack, r, tones) || d.roll(0, 9) == 0 {
				break
			}
			r = d.reading(e, tones)
		}
		e.Readings = append(e.Readings, r)
	}
	return e
}

// reading returns a valid reading that is not far from being true of some tones.
func (d *dice) reading(e api.Ear, tones []int) api.Reading {
	a, b, seconds := d.roll(0, len(e.Tones)-1), d.roll(0, len(e.Tones)-1), d.roll(1, 20)
	if d.roll(0, 1) == 0 {
		seconds = 20 - seconds/4
	}
	near := func(n int) (int, int) {
		least := max(0, n/100+d.roll(-2, 2))
		return least, least + max(0, d.roll(-1, 2))
	}
	if a == b {
		least, most := near(tones[a] * seconds)
		return count(a, seconds, least, most)
	}
	if d.roll(0, 2) == 0 {
		return higher(a, b)
	}
	least, most := near(apart(tones[a], tones[b]) * seconds)
	return beat(a, b, seconds, least, most)
}

// gates returns valid gates, at most so many.
func (d *dice) gates(most int) []int {
	var gates []int
	for range d.roll(1, most) {
		gates = append(gates, d.roll(1, 20))
	}
	slices.Sort(gates)
	return slices.Compact(gates)
}

// apart returns the distance of two tones.
func apart(a, b int) int {
	if a > b {
		return a - b
	}
	return b - a
}

// isTrue tells whether a reading is true of some tones, in the words of the chapter.
func isTrue(slack int, r api.Reading, tones []int) bool {
	switch r.Kind {
	case api.ReadCount:
		n := tones[r.A] * r.Seconds
		return n > 100*(r.Shown.Min-1-slack) && n < 100*(r.Shown.Max+1+slack)
	case api.ReadBeat:
		n := apart(tones[r.A], tones[r.B]) * r.Seconds
		return 100*r.Shown.Min <= n && n <= 100*r.Shown.Max
	}
	return tones[r.A] > tones[r.B]
}

// choices returns all tones within some ranges.
func choices(ranges []api.Range) [][]int {
	all := [][]int{nil}
	for _, r := range ranges {
		var longer [][]int
		for _, tones := range all {
			for tone := r.Min; tone <= r.Max; tone++ {
				longer = append(longer, append(slices.Clone(tones), tone))
			}
		}
		all = longer
	}
	return all
}

// truths returns all truths of an ear.
func truths(e api.Ear) [][]int {
	return slices.DeleteFunc(choices(e.Tones), func(tones []int) bool {
		return slices.ContainsFunc(e.Readings, func(r api.Reading) bool { return !isTrue(e.Slack, r, tones) })
	})
}

// column returns what a function says of each of some tones.
func column(all [][]int, of func(tones []int) int) []int {
	var list []int
	for _, tones := range all {
		list = append(list, of(tones))
	}
	return list
}

// ends returns the least and the greatest number of a list that is not empty.
func ends(list []int) api.Range { return to(slices.Min(list), slices.Max(list)) }

// verdictOf returns in which of some cases something is so.
func verdictOf[T any](cases []T, so func(T) bool) int {
	switch n := len(slices.DeleteFunc(slices.Clone(cases), func(c T) bool { return !so(c) })); n {
	case len(cases):
		return api.Always
	case 0:
		return api.Never
	}
	return api.Either
}

// left yields what each outcome of a reading leaves of some truths, in the words of the chapter: all that a meter could show is gone through, but for counts that are far from each tone.
func left(slack int, r api.Reading, all [][]int) iter.Seq2[int, [][]int] {
	const far = 10
	last, some := 1, func(outcome int, tones []int) bool { return isTrue(slack, r, tones) == (outcome == 1) }
	first := 0
	switch r.Kind {
	case api.ReadCount:
		cycles := ends(column(all, func(tones []int) int { return tones[r.A] * r.Seconds / 100 }))
		first, last = max(0, cycles.Min-far), min(25000, cycles.Max+far)
		some = func(outcome int, tones []int) bool {
			return isTrue(slack, count(r.A, r.Seconds, outcome, outcome), tones)
		}
	case api.ReadBeat:
		beats := func(tones []int) int { return apart(tones[r.A], tones[r.B]) * r.Seconds / 100 }
		last = slices.Max(column(all, beats))
		some = func(outcome int, tones []int) bool { return beats(tones) == outcome }
	}
	return func(yield func(int, [][]int) bool) {
		for outcome := first; outcome <= last; outcome++ {
			part := slices.DeleteFunc(slices.Clone(all), func(tones []int) bool { return !some(outcome, tones) })
			if len(part) > 0 && !yield(outcome, part) {
				return
			}
		}
	}
}

// worst returns how many truths an outcome of a reading leaves at most.
func worst(slack int, r api.Reading, all [][]int) int {
	most := 0
	for _, part := range left(slack, r, all) {
		most = max(most, len(part))
	}
	return most
}

// byGates returns the readings by gates.
func byGates(tongues int, gates []int) []api.Reading {
	var counts, beats, highers []api.Reading
	for a := range tongues {
		for _, seconds := range gates {
			counts = append(counts, count(a, seconds, 0, 0))
		}
		for b := a + 1; b < tongues; b++ {
			for _, seconds := range gates {
				beats = append(beats, beat(a, b, seconds, 0, 0))
			}
			highers = append(highers, higher(a, b))
		}
	}
	return slices.Concat(counts, beats, highers)
}

// enough tells whether so many readings are enough to know something of some truths, whatever they show.
func enough(slack int, readings []api.Reading, all [][]int, number int, so func(tones []int) bool) bool {
	if verdictOf(all, so) != api.Either {
		return true
	}
	return number > 0 && slices.ContainsFunc(readings, func(r api.Reading) bool {
		for _, part := range left(slack, r, all) {
			if !enough(slack, readings, part, number-1, so) {
				return false
			}
		}
		return true
	})
}

// fewest returns all lists of the fewest readings without which there is a truth, in lexicographic order: all sets of readings are looked at.
func fewest(e api.Ear) [][]int {
	var found [][]int
	for set := range uint(1) << len(e.Readings) {
		var list []int
		var rest []api.Reading
		for i, r := range e.Readings {
			if set>>i&1 == 1 {
				list = append(list, i)
			} else {
				rest = append(rest, r)
			}
		}
		if len(found) > 0 && len(found[0]) < bits.OnesCount(set) || len(truths(heard(e, rest...))) == 0 {
			continue
		}
		if len(found) > 0 && len(found[0]) > len(list) {
			found = nil
		}
		found = append(found, list)
	}
	slices.SortFunc(found, slices.Compare)
	return found
}
