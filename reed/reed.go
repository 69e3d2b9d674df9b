// Package reed is layer 1: tongues of steel that are tuned with a file (see shared/doc/01-reed.md).
package reed

import "musette/api"

// Check returns the first error of a job.
func Check(j api.Job) api.Errno {
	e := first(
		checkRange(j.Pitch, -api.MaxCents, api.MaxCents),
		checkRange(j.Tip, 0, api.MaxSteel),
		checkRange(j.Root, 0, api.MaxSteel),
		checkRange(j.Up, 0, api.MaxEffect),
		checkRange(j.Down, 0, api.MaxEffect),
		checkRange(j.TipWear, 0, api.MaxEffect),
		checkRange(j.RootWear, 0, api.MaxEffect),
		checkNumber(j.Least, 0, api.MaxSteel),
	)
	if e != api.OK {
		return e
	}
	if len(j.Shifts) > api.MaxShifts {
		return api.ErrMany
	}
	for _, shift := range j.Shifts {
		if e := checkRange(shift, -api.MaxCents, api.MaxCents); e != api.OK {
			return e
		}
	}
	return first(
		checkNumber(j.Within, 0, api.MaxCents),
		checkNumber(j.Meter, 0, api.MaxMeter),
	)
}

// Window returns all pitches with which the tongue passes in every truth.
func Window(j api.Job) (api.Range, api.Errno) {
	if e := Check(j); e != api.OK {
		return api.Range{}, e
	}
	sure, _ := windows(j)
	if empty(sure) {
		return api.Range{}, api.ErrNone
	}
	return sure, api.OK
}

// Passes returns whether the tongue passes as it is.
func Passes(j api.Job) (int, api.Errno) {
	if e := Check(j); e != api.OK {
		return 0, e
	}
	return passes(j), api.OK
}

// Hear returns all pitches that are known to be possible when the meter shows a reading.
func Hear(j api.Job, reading int) (api.Range, api.Errno) {
	if e := Check(j); e != api.OK {
		return api.Range{}, e
	}
	// This comes before any sum with the reading, which may be as great as an int can be.
	if reading < j.Pitch.Min-j.Meter || reading > j.Pitch.Max+j.Meter {
		return api.Range{}, api.ErrAgainst
	}
	return heard(j.Pitch, reading, j.Meter), api.OK
}

// first returns the first of several errors that is one.
func first(errors ...api.Errno) api.Errno {
	for _, e := range errors {
		if e != api.OK {
			return e
		}
	}
	return api.OK
}

// checkRange returns the error of a range that has to be valid from least to most.
func checkRange(r api.Range, least, most int) api.Errno {
	e := first(checkNumber(r.Min, least, most), checkNumber(r.Max, least, most))
	if e == api.OK && empty(r) {
		return api.ErrOrder
	}
	return e
}

// checkNumber returns the error of a number that has to be from least to most.
func checkNumber(n, least, most int) api.Errno {
	if n < least || n > most {
		return api.ErrValue
	}
	return api.OK
}

// passes returns whether the tongue of a valid job passes as it is.
func passes(j api.Job) int {
	sure, possible := windows(j)
	switch {
	case holds(sure, j.Pitch):
		return api.Always
	case empty(meet(possible, j.Pitch)):
		return api.Never
	}
	return api.Either
}

// windows returns all pitches with which the tongue of a valid job passes whatever the shifts are, and all with which it passes for some shifts. The shifts do not depend on each other, so a pitch has to be allowed by each condition on its own.
func windows(j api.Job) (sure, possible api.Range) {
	var sures, possibles []api.Range
	for _, shift := range conditions(j) {
		sures = append(sures, api.Range{Min: -j.Within - shift.Min, Max: j.Within - shift.Max})
		possibles = append(possibles, api.Range{Min: -j.Within - shift.Max, Max: j.Within - shift.Min})
	}
	return meet(sures[0], sures[1:]...), meet(possibles[0], possibles[1:]...)
}

// conditions returns the shift under each condition; without conditions the pitch counts as it is, as if there were one that shifts nothing.
func conditions(j api.Job) []api.Range {
	if len(j.Shifts) == 0 {
		return []api.Range{{}}
	}
	return j.Shifts
}

// heard returns the pitches that are still possible when a meter that errs by at most so much shows a reading.
func heard(pitch api.Range, reading, meter int) api.Range {
	return meet(pitch, api.Range{Min: reading - meter, Max: reading + meter})
}

// meet returns what is in all ranges; it is empty if its Min is greater than its Max.
func meet(r api.Range, others ...api.Range) api.Range {
	for _, other := range others {
		r = api.Range{Min: max(r.Min, other.Min), Max: min(r.Max, other.Max)}
	}
	return r
}

// holds tells whether all numbers of the inner range, which is not empty, are in the outer one.
func holds(outer, inner api.Range) bool {
	return outer.Min <= inner.Min && inner.Max <= outer.Max
}

// empty tells whether no number is in a range.
func empty(r api.Range) bool { return r.Min > r.Max }
