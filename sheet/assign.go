package sheet

import (
	"iter"
	"slices"

	"musette/api"
)

// assignment is the sheet of each blank, and the blanks of each sheet.
type assignment struct {
	sheets []int
	blanks []set
}

// number returns how many sheets an assignment has.
func (a assignment) number() int { return len(a.blanks) }

// with returns an assignment with one blank more, which has a sheet that there is, or the next one.
func (a assignment) with(sheet int) assignment {
	place := len(a.sheets)
	blanks := slices.Clone(a.blanks)
	if sheet == len(blanks) {
		blanks = append(blanks, 0)
	}
	blanks[sheet] = blanks[sheet].with(place)
	return assignment{append(slices.Clone(a.sheets), sheet), blanks}
}

// best returns the first assignment with the fewest sheets.
func (s stock) best() (assignment, bool) {
	return fewest(s.assignments(), assignment.number)
}

// assignments hands out all assignments in lexicographic order.
func (s stock) assignments() iter.Seq[assignment] {
	planned, groups := s.planner(), groupsOf(s.Parts)
	fits := func(blanks set) bool {
		return !slices.ContainsFunc(groups, blanks.splits) && planned(blanks).found
	}
	return func(yield func(assignment) bool) {
		var assign func(a assignment) bool
		assign = func(a assignment) bool {
			if len(a.sheets) == len(s.Parts) {
				return !all(a.blanks, fits) || yield(a)
			}
			for sheet := range a.number() + 1 {
				if !assign(a.with(sheet)) {
					return false
				}
			}
			return true
		}
		assign(assignment{})
	}
}

// groupsOf returns the lists of blanks that need the same pattern.
func groupsOf(parts []api.Part) []set {
	groups := make([]set, api.MaxPattern)
	for i, p := range parts {
		if p.Pattern > 0 {
			groups[p.Pattern-1] = groups[p.Pattern-1].with(i)
		}
	}
	return groups
}

// all tells whether something is so for all items of a list.
func all[T any](list []T, is func(T) bool) bool {
	return !slices.ContainsFunc(list, func(item T) bool { return !is(item) })
}

// fewest returns the first of several things of those that have the fewest of what is counted, if there is one.
func fewest[T any](things iter.Seq[T], count func(T) int) (best T, found bool) {
	for thing := range things {
		if !found || count(thing) < count(best) {
			best, found = thing, true
		}
	}
	return best, found
}
