package bellow

import (
	"iter"

	"musette/api"
)

// course is valid ways of a piece.
type course []int

// turns returns how often one of the ways is not the same as the one before.
func (c course) turns() int {
	turns := 0
	for i, way := range c {
		if i > 0 && way != c[i-1] {
			turns++
		}
	}
	return turns
}

// numbers is an ascending list of corners or notes.
type numbers []int

func (n numbers) length() int { return len(n) }

// courses yields all valid ways of a valid piece, in lexicographic order.
func courses(p []api.Note) iter.Seq[course] {
	return func(yield func(course) bool) {
		for bits := range 1 << len(p) {
			c := make(course, len(p))
			for i := range c {
				c[i] = api.WayPress
				if bits>>(len(p)-1-i)&1 == 1 {
					c[i] = api.WayPull
				}
			}
			if checkWays(p, c) == api.OK && !yield(c) {
				return
			}
		}
	}
}

// choices yields all lists of numbers below a limit, those that are as long in lexicographic order.
func choices(limit int) iter.Seq[numbers] {
	return func(yield func(numbers) bool) {
		// A bit is set for each number that is left out, so that lists with lesser numbers come first.
		for bits := range 1 << limit {
			var list numbers
			for n := range limit {
				if bits>>(limit-1-n)&1 == 0 {
					list = append(list, n)
				}
			}
			if !yield(list) {
				return
			}
		}
	}
}

// fewest returns the first of the lists that will do, of those with the least size; no size is above most.
func fewest[L ~[]int](lists iter.Seq[L], size func(L) int, most int, will func(L) bool) (best L, found bool) {
search:
	for least := range most + 1 {
		for list := range lists {
			if size(list) == least && will(list) {
				best, found = list, true
				break search
			}
		}
	}
	return best, found
}

// fewestOf returns the first list of the fewest numbers below a limit that will do, or ErrNone if all of them will not.
func fewestOf(limit int, will func(list []int) bool) ([]int, api.Errno) {
	all := make([]int, limit)
	for n := range all {
		all[n] = n
	}
	if !will(all) {
		return nil, api.ErrNone
	}
	best, _ := fewest(choices(limit), numbers.length, limit, func(n numbers) bool { return will(n) })
	return best, api.OK
}

// best returns the first ways with the fewest turns by which a piece can be played so.
func (w work) best(p []api.Note, so func(w work, p []api.Note, ways []int) bool) (course, bool) {
	return fewest(courses(p), course.turns, len(p), func(c course) bool { return so(w, p, c) })
}

// manages tells whether there are ways by which a piece can always be played.
func (w work) manages(p []api.Note) bool {
	_, found := w.best(p, work.always)
	return found
}

// calmest returns the first ways with the fewest turns by which a piece can be played so, and how many turns these are.
func calmest(b api.Bellow, p []api.Note, so func(w work, p []api.Note, ways []int) bool) ([]int, int, api.Errno) {
	w, x := ready(b, p)
	if x != api.OK {
		return nil, 0, x
	}
	c, found := w.best(p, so)
	if !found {
		return nil, 0, api.ErrNone
	}
	return c, c.turns(), api.OK
}
