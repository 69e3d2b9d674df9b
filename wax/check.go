package wax

import "musette/api"

// Check returns the first error of a season.
func Check(s api.Season) api.Errno {
	return first(
		checkNumber(len(s.Heats), 1, api.MaxWeeks),
		checkNumber(len(s.Damps), len(s.Heats), len(s.Heats)),
		checkList(s.Heats, checkWeather),
		checkList(s.Damps, checkWeather),
		checkNumber(len(s.Joints), 0, api.MaxJoints),
		checkList(s.Joints, checkOne),
		checkNumber(len(s.Reports), 0, api.MaxSeens),
		checkList(s.Reports, func(r api.Seen) api.Errno { return checkReport(s, r) }),
	)
}

// checkOne returns the first error of one joint.
func checkOne(j api.Joint) api.Errno {
	return first(
		checkKind(j.Kind),
		checkWeather(j.High),
		checkWeather(j.Low),
		checkRange(j.Weeks, 1, api.MaxWeeks),
		checkRange(j.Life, 0, api.MaxLife),
	)
}

// checkReport returns the first error of a report about a season.
func checkReport(s api.Season, r api.Seen) api.Errno {
	return first(checkJoint(s, r.Joint), checkWeek(s, r.Week))
}

// checkLooks returns the first error of the weeks in which somebody looks.
func checkLooks(s api.Season, weeks []int) api.Errno {
	before := -1
	for _, week := range weeks {
		if e := first(checkWeek(s, week), checkOrder(before+1, week)); e != api.OK {
			return e
		}
		before = week
	}
	return api.OK
}

// checkKind returns the error of the kind of a joint.
func checkKind(kind int) api.Errno {
	if kind != api.JointWax && kind != api.JointLeather {
		return api.ErrKind
	}
	return api.OK
}

// checkJoint returns the error of the number of a joint.
func checkJoint(s api.Season, joint int) api.Errno {
	if joint < 0 || joint >= len(s.Joints) {
		return api.ErrUnknown
	}
	return api.OK
}

// checkWeek returns the error of the number of a week.
func checkWeek(s api.Season, week int) api.Errno { return checkValue(week, 0, last(s)) }

// checkWeather returns the error of a weather range.
func checkWeather(r api.Range) api.Errno {
	if e := checkRange(r, api.MinWeather, api.MaxWeather); e != api.OK {
		return e
	}
	return checkValue(r.Max-r.Min, 0, api.MaxWide)
}

// checkRange returns the error of a range whose numbers have bounds.
func checkRange(r api.Range, least, most int) api.Errno {
	return first(checkValue(r.Min, least, most), checkValue(r.Max, least, most), checkOrder(r.Min, r.Max))
}

// checkOrder returns the error of two numbers of which the first one may not be greater.
func checkOrder(from, to int) api.Errno {
	if from > to {
		return api.ErrOrder
	}
	return api.OK
}

// checkValue returns the error of a number that has bounds.
func checkValue(n, least, most int) api.Errno {
	if n < least || n > most {
		return api.ErrValue
	}
	return api.OK
}

// checkNumber returns the error of the length of a list.
func checkNumber(n, least, most int) api.Errno {
	switch {
	case n < least:
		return api.ErrFew
	case n > most:
		return api.ErrMany
	}
	return api.OK
}

// checkList returns the first error of the items of a list.
func checkList[T any](list []T, check func(T) api.Errno) api.Errno {
	for _, item := range list {
		if e := check(item); e != api.OK {
			return e
		}
	}
	return api.OK
}

// first returns the first of several errors that is one.
func first(errors ...api.Errno) api.Errno {
	for _, e := range errors {
		if e != api.OK {
			return e
		}
	}
	return api.OK
}
