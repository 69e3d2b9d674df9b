package voice

import (
	"musette/api"
	"musette/reed"
)

// Check returns the first error of a box.
func Check(b api.Box) api.Errno {
	return first(
		checkLaw(b.Law),
		checkValue(b.Note, 0, api.MaxNote),
		checkValue(at(b.Law, b.Note).due, 0, api.MaxDue),
		checkList(b.Lows, api.MaxLows, checkSound),
		checkList(b.Highs, api.MaxHighs, checkSound),
		reed.Check(blank(b)),
	)
}

// CheckScale returns the first error of a scale.
func CheckScale(s api.Scale) api.Errno {
	e := first(
		checkLaw(s.Law),
		checkList(s.Rows, api.MaxRows, func(row []api.Sound) api.Errno { return checkRow(s, row) }),
	)
	if e != api.OK {
		return e
	}
	for note := range notes(s) {
		if e := checkValue(at(s.Law, note).due, 0, api.MaxDue); e != api.OK {
			return e
		}
	}
	return api.OK
}

// checkLaw returns the first error of a law.
func checkLaw(l api.Law) api.Errno {
	return first(
		checkValue(l.First, 0, api.MaxDue),
		checkValue(l.Step, -api.MaxStep, api.MaxStep),
		checkValue(l.Span, 0, api.MaxSpan),
		checkValue(l.Press, 0, api.MaxPress),
	)
}

// checkSound returns the first error of a sound.
func checkSound(s api.Sound) api.Errno {
	return first(checkRange(s.Tone, api.MaxHigh), checkRange(s.Slope, api.MaxSlope))
}

// checkRow returns the first error of a row of a scale.
func checkRow(s api.Scale, row []api.Sound) api.Errno {
	if len(row) > api.MaxScale {
		return api.ErrMany
	}
	if len(row) != notes(s) {
		return api.ErrText
	}
	return checkList(row, api.MaxScale, checkSound)
}

// checkRegister returns the first error of a register of a valid scale.
func checkRegister(s api.Scale, register []int) api.Errno {
	before := -1
	for _, row := range register {
		if row < 0 || row >= len(s.Rows) {
			return api.ErrUnknown
		}
		if row <= before {
			return api.ErrOrder
		}
		before = row
	}
	return api.OK
}

// checkList returns the error of a list that has at most so many items, each of which has its own error.
func checkList[T any](list []T, most int, check func(T) api.Errno) api.Errno {
	if len(list) > most {
		return api.ErrMany
	}
	for _, item := range list {
		if e := check(item); e != api.OK {
			return e
		}
	}
	return api.OK
}

// checkRange returns the error of a range whose numbers are at most so far from 0.
func checkRange(r api.Range, most int) api.Errno {
	e := first(checkValue(r.Min, -most, most), checkValue(r.Max, -most, most))
	if e == api.OK && r.Min > r.Max {
		return api.ErrOrder
	}
	return e
}

// checkValue returns the error of a number that has bounds.
func checkValue(n, least, most int) api.Errno {
	if n < least || n > most {
		return api.ErrValue
	}
	return api.OK
}

// first returns the first of several errors that is one.
func first(errors ...api.Errno) api.Errno {
	for _, e := range errors {
		if e != api.OK {
			return e
		}
	}
	return api.OK
}
