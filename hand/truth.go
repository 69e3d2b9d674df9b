package hand

import (
	"maps"
	"slices"

	"musette/api"
	"musette/meter"
)

// rates is the rate of each hand; 0 if it does not drift, or if there is no such hand.
type rates [api.MaxHands]int

// with returns the rates if a hand has another one.
func (r rates) with(hand, rate int) rates {
	r[hand] = rate
	return r
}

// tuners is by which hands each entry can have been tuned.
type tuners [api.MaxEntries]set

// work is a valid roster at work: what is known of the deviation of each entry.
type work struct {
	api.Roster
	deviations []api.Range
}

// workOf returns the work of a roster, or Check's error.
func workOf(r api.Roster) (work, api.Errno) {
	if e := Check(r); e != api.OK {
		return work{}, e
	}
	w := work{Roster: r}
	for _, t := range r.Entries {
		tones, _ := meter.Tones(t.Ear)
		w.deviations = append(w.deviations, api.Range{Min: tones[0].Min - t.Due, Max: tones[0].Max - t.Due})
	}
	return w, api.OK
}

// setRight returns the last day, not after another one, on which a hand was set right; all hands were on the day 0.
func (w work) setRight(hand, day int) int {
	last := 0
	for _, s := range w.Sets {
		if s.Hand == hand && s.Day <= day {
			last = max(last, s.Day)
		}
	}
	return last
}

// off returns the error on a day of a hand that has such a rate.
func (w work) off(hand, rate, day int) int { return rate * (day - w.setRight(hand, day)) }

// offs returns the least and the greatest error on a day of a hand that has one of some ascending rates: no number of days is below 0, so that these are those of the first and the last rate.
func (w work) offs(hand int, list []int, day int) api.Range {
	return api.Range{Min: w.off(hand, list[0], day), Max: w.off(hand, list[len(list)-1], day)}
}

// fits tells whether an entry can have been tuned by a hand that has such a rate. One tongue alone is heard by counts, each of which leaves tones without a gap: so it has each deviation between the ends.
func (w work) fits(entry, hand, rate int) bool {
	t, deviation := w.Entries[entry], w.deviations[entry]
	if t.Hand != nobody && t.Hand != hand {
		return false
	}
	off := w.off(hand, rate, t.Day)
	return deviation.Min-w.Skill <= off && off <= deviation.Max+w.Skill
}

// tuned returns by which hands each entry can have been tuned if they have such rates, and whether there is one for each.
func (w work) tuned(known rates) (by tuners, all bool) {
	for entry := range w.Entries {
		for hand := range w.Hands {
			if w.fits(entry, hand, known[hand]) {
				by[entry] = by[entry].with(hand)
			}
		}
		if by[entry] == 0 {
			return tuners{}, false
		}
	}
	return by, true
}

// truthsOf returns all rates that there are in truths in which just these hands drift, and who can have tuned what with them.
func (w work) truthsOf(drifting set) map[rates]tuners {
	found, hands := map[rates]tuners{}, drifting.list()
	var search func(at int, known rates)
	search = func(at int, known rates) {
		if at == len(hands) {
			if by, all := w.tuned(known); all {
				found[known] = by
			}
			return
		}
	trying:
		for rate := w.Drift.Min; rate <= w.Drift.Max; rate++ {
			next := known.with(hands[at], rate)
			if next == known {
				continue // with the rate 0 it would not drift
			}
			for entry, t := range w.Entries {
				if t.Hand == hands[at] && !w.fits(entry, t.Hand, rate) {
					continue trying // whatever the others' rates are
				}
			}
			search(at+1, next)
		}
	}
	search(0, rates{})
	return found
}

// findings is what is found of a roster: who drifts in the explanations, in lexicographic order, and all rates and tuners that there are in them.
type findings struct {
	work
	lists  []set
	truths map[rates]tuners
}

// findingsOf returns what is found of a roster, or Check's error, or else the first one of the other arguments of a call, or else ErrNone if there is no truth.
func findingsOf(r api.Roster, arguments ...api.Errno) (findings, api.Errno) {
	w, e := workOf(r)
	if e := first(e, first(arguments...)); e != api.OK {
		return findings{}, e
	}
	f := findings{work: w, truths: map[rates]tuners{}}
	for number := 0; number <= r.Hands && len(f.lists) == 0; number++ {
		f.explain(number)
	}
	if len(f.lists) == 0 {
		return findings{}, api.ErrNone
	}
	return f, api.OK
}

// explain adds all truths in which so many hands drift.
func (f *findings) explain(number int) {
	for drifting := range listsOf(f.Hands) {
		if drifting.size() != number {
			continue
		}
		if truths := f.truthsOf(drifting); len(truths) > 0 {
			f.lists = append(f.lists, drifting)
			maps.Copy(f.truths, truths)
		}
	}
}

// having returns how many lists have a hand.
func (f findings) having(hand int) int {
	number := 0
	for _, drifting := range f.lists {
		if drifting.has(hand) {
			number++
		}
	}
	return number
}

// verdict tells whether a hand drifts.
func (f findings) verdict(hand int) int {
	switch f.having(hand) {
	case len(f.lists):
		return api.Always
	case 0:
		return api.Never
	}
	return api.Either
}

// left returns how many lists are left at most when somebody has looked at a hand.
func (f findings) left(hand int) int {
	having := f.having(hand)
	return max(having, len(f.lists)-having)
}

// ratesOf returns all rates of a hand, ascending; 0 is one of them if there is an explanation in which it does not drift.
func (f findings) ratesOf(hand int) []int {
	var list []int
	for known := range f.truths {
		list = append(list, known[hand])
	}
	slices.Sort(list)
	return slices.Compact(list)
}

// tunersOf returns all hands by which an entry was tuned.
func (f findings) tunersOf(entry int) set {
	var all set
	for _, by := range f.truths {
		all |= by[entry]
	}
	return all
}

// leastOf returns the first of several for which a number is the least one, and this number.
func leastOf[T any](list []T, number func(T) int) (item T, least int) {
	for i, x := range list {
		if n := number(x); i == 0 || n < least {
			item, least = x, n
		}
	}
	return item, least
}
