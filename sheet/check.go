package sheet

import (
	"slices"

	"musette/api"
)

// Check returns the first error of a stock.
func Check(s api.Sheet) api.Errno {
	return first(
		checkSides(s.Long, s.Wide),
		checkShrink(s.Along),
		checkShrink(s.Across),
		checkMost(len(s.Parts), api.MaxCuts),
		checkList(s.Parts, checkPart),
	)
}

// checkSides returns the error of a length and a width.
func checkSides(long, wide int) api.Errno {
	return first(checkValue(long, 1, api.MaxSide), checkValue(wide, 1, api.MaxSide))
}

// checkShrink returns the first error of the amounts by which a blank can shrink.
func checkShrink(r api.Range) api.Errno {
	e := first(checkValue(r.Min, 0, api.MaxShrink), checkValue(r.Max, 0, api.MaxShrink))
	if e == api.OK && r.Min > r.Max {
		return api.ErrOrder
	}
	return e
}

// checkPart returns the error of a blank.
func checkPart(p api.Part) api.Errno {
	return first(checkSides(p.Long, p.Wide), checkValue(p.Pattern, 0, api.MaxPattern))
}

// checkKnown returns the error of the number of a blank of a stock.
func checkKnown(s api.Sheet, part int) api.Errno {
	if part < 0 || part >= len(s.Parts) {
		return api.ErrUnknown
	}
	return api.OK
}

// checkParts returns the first error of a list of blanks of a stock.
func checkParts(s api.Sheet, parts []int) api.Errno {
	for i, part := range parts {
		switch {
		case checkKnown(s, part) != api.OK:
			return api.ErrUnknown
		case slices.Contains(parts[:i], part):
			return api.ErrTwice
		}
	}
	return api.OK
}

// checkSpots returns the error of the number of spots for a list of blanks.
func checkSpots(parts []int, spots []api.Spot) api.Errno {
	if len(spots) < len(parts) {
		return api.ErrFew
	}
	return checkMost(len(spots), len(parts))
}

// checkMost returns the error of the length of a list.
func checkMost(n, most int) api.Errno {
	if n > most {
		return api.ErrMany
	}
	return api.OK
}

// checkValue returns the error of a number that has bounds.
func checkValue(n, least, most int) api.Errno {
	if n < least || n > most {
		return api.ErrValue
	}
	return api.OK
}

// checkList returns the first error of the items of a list.
func checkList[T any](list []T, check func(T) api.Errno) api.Errno {
	for _, item := range list {
		if e := check(item); e != api.OK {
			return e
		}
	}
	return api.OK
}

// first returns the first of several errors that is one.
func first(errors ...api.Errno) api.Errno {
	for _, e := range errors {
		if e != api.OK {
			return e
		}
	}
	return api.OK
}
