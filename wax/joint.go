package wax

import (
	"cmp"
	"iter"
	"slices"

	"musette/api"
)

// The causes of which a joint can fail.
const (
	CauseHigh = iota
	CauseLow
	CauseAge
	causes
)

// fate is, for each cause, the first week in which a joint has it, or the one after the last week if it never has.
type fate [causes]int

// week returns the week in which the joint fails.
func (f fate) week() int { return least(f[0], f[1:]...) }

// fatesOf hands out all that can come of a joint in a weather. Its numbers do not depend on each other, so that neither do the weeks of its causes.
func fatesOf(j api.Joint, felt []int) iter.Seq[fate] {
	highs, lows, ages := highsOf(j, felt), lowsOf(j, felt), agesOf(j, felt)
	return func(yield func(fate) bool) {
		for high := range highs.each() {
			for low := range lows.each() {
				for age := range ages.each() {
					if !yield(fate{CauseHigh: high, CauseLow: low, CauseAge: age}) {
						return
					}
				}
			}
		}
	}
}

// highsOf returns the weeks in which the weather can be too high for a joint for the first time.
func highsOf(j api.Joint, felt []int) weeks {
	var list weeks
	for high := j.High.Min; high <= j.High.Max; high++ {
		list = list.with(nth(1, felt, func(n int) bool { return n >= high }))
	}
	return list
}

// lowsOf returns the weeks in which the weather can have been too low for a joint for too many weeks.
func lowsOf(j api.Joint, felt []int) weeks {
	var list weeks
	for low := j.Low.Min; low <= j.Low.Max; low++ {
		for number := j.Weeks.Min; number <= j.Weeks.Max; number++ {
			list = list.with(nth(number, felt, func(n int) bool { return n <= low }))
		}
	}
	return list
}

// agesOf returns the weeks in which a joint can be too old.
func agesOf(j api.Joint, felt []int) weeks {
	var list weeks
	for life := j.Life.Min; life <= j.Life.Max; life++ {
		list = list.with(min(life, len(felt)))
	}
	return list
}

// nth returns the week whose weather is bad as the first, the second or a later one, or the week after the last one if too few are.
func nth(number int, felt []int, bad func(int) bool) int {
	for week, n := range felt {
		if bad(n) {
			number--
		}
		if number == 0 {
			return week
		}
	}
	return len(felt)
}

// failuresIn returns the weeks in which a joint can fail in a weather.
func failuresIn(j api.Joint, felt []int) weeks {
	var list weeks
	for f := range fatesOf(j, felt) {
		list = list.with(f.week())
	}
	return list
}

// failuresOf returns the weeks in which a joint can fail in any weather within ranges.
func failuresOf(j api.Joint, ranges []api.Range) weeks {
	var list weeks
	for w := range weathers(ranges) {
		list |= failuresIn(j, w[:len(ranges)])
	}
	return list
}

// weeks is a set of weeks in which a joint can fail; if it can stay, the week after the last one is in it.
type weeks uint

// with returns the weeks and another one.
func (w weeks) with(week int) weeks { return w | 1<<week }

// has tells whether a week is in the set.
func (w weeks) has(week int) bool { return w&(1<<week) != 0 }

// until returns the weeks up to one.
func (w weeks) until(week int) weeks { return w & (2<<week - 1) }

// after returns the weeks after one.
func (w weeks) after(week int) weeks { return w &^ (2<<week - 1) }

// each hands out the weeks, ascending.
func (w weeks) each() iter.Seq[int] {
	return func(yield func(int) bool) {
		for week := range api.MaxWeeks + 1 {
			if w.has(week) && !yield(week) {
				return
			}
		}
	}
}

// list returns the weeks, ascending.
func (w weeks) list() []int { return slices.Collect(w.each()) }

// least returns the least of several values.
func least[T cmp.Ordered](value T, others ...T) T {
	for _, other := range others {
		value = min(value, other)
	}
	return value
}
