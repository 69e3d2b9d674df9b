package hand

import (
	"musette/api"
	"musette/meter"
)

// nobody stands for the hand of an entry of which nobody knows by whom it was tuned.
const nobody = -1

// Check returns the first error of a roster.
func Check(r api.Roster) api.Errno {
	return first(
		checkValue(r.Hands, 1, api.MaxHands),
		checkValue(r.Skill, 0, api.MaxSkill),
		checkValue(r.Drift.Min, -api.MaxDrift, api.MaxDrift),
		checkValue(r.Drift.Max, -api.MaxDrift, api.MaxDrift),
		checkOrder(r.Drift),
		checkSettings(r.Sets, r.Hands),
		checkEntries(r.Entries, r.Hands),
	)
}

// checkSettings returns the first error of the settings of so many hands.
func checkSettings(list []api.Setting, hands int) api.Errno {
	if e := checkNumber(len(list), api.MaxSets); e != api.OK {
		return e
	}
	for _, s := range list {
		if e := first(checkKnown(s.Hand, hands), checkDay(s.Day)); e != api.OK {
			return e
		}
	}
	return api.OK
}

// checkEntries returns the first error of the entries of so many hands. Each entry is checked on its own; all of them are waited for.
func checkEntries(list []api.Tuned, hands int) api.Errno {
	if e := checkNumber(len(list), api.MaxEntries); e != api.OK {
		return e
	}
	var checks []chan api.Errno
	for _, t := range list {
		check := make(chan api.Errno)
		checks = append(checks, check)
		go func() {
			defer close(check)
			check <- checkEntry(t, hands)
		}()
	}
	var errors []api.Errno
	for _, check := range checks {
		for e := range check {
			errors = append(errors, e)
		}
	}
	return first(errors...)
}

// checkEntry returns the first error of an entry of so many hands.
func checkEntry(t api.Tuned, hands int) api.Errno {
	return first(
		checkDay(t.Day),
		checkTuner(t.Hand, hands),
		checkValue(t.Due, 1, api.MaxTone),
		checkEar(t.Ear),
	)
}

// checkTuner returns the error of the hand of an entry.
func checkTuner(hand, hands int) api.Errno {
	if hand == nobody {
		return api.OK
	}
	return checkKnown(hand, hands)
}

// checkEar returns the first error of the ear of an entry.
func checkEar(ear api.Ear) api.Errno {
	_, e := meter.Tones(ear)
	return first(meter.Check(ear), checkNumber(len(ear.Tones), 1), e)
}

// checkHands returns the first error of a list of some of so many hands.
func checkHands(list []int, hands int) api.Errno {
	before := -1
	for _, hand := range list {
		if e := checkKnown(hand, hands); e != api.OK {
			return e
		}
		if hand <= before {
			return api.ErrOrder
		}
		before = hand
	}
	return api.OK
}

// checkKnown returns the error of the number of one of so many things.
func checkKnown(which, number int) api.Errno {
	if which < 0 || which >= number {
		return api.ErrUnknown
	}
	return api.OK
}

// checkDay returns the error of a day.
func checkDay(day int) api.Errno { return checkValue(day, 0, api.MaxTuneDay) }

// checkValue returns the error of a number that has bounds.
func checkValue(n, least, most int) api.Errno {
	if n < least || n > most {
		return api.ErrValue
	}
	return api.OK
}

// checkOrder returns the error of a range whose ends may be in the wrong order.
func checkOrder(r api.Range) api.Errno {
	if r.Min > r.Max {
		return api.ErrOrder
	}
	return api.OK
}

// checkNumber returns the error of a number of things that has a bound.
func checkNumber(n, most int) api.Errno {
	if n > most {
		return api.ErrMany
	}
	return api.OK
}

// first returns the first of several errors that is one.
func first(errors ...api.Errno) api.Errno {
	for _, e := range errors {
		if e != api.OK {
			return e
		}
	}
	return api.OK
}
