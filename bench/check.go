package bench

import (
	"strconv"

	"musette/api"
)

// Check returns the first error of a shop.
func Check(s api.Shop) api.Errno {
	return first(
		checkValue(s.Benches, 1, api.MaxBenches),
		checkMost(len(s.Tasks), api.MaxTasks),
		checkList(s.Tasks, func(t api.Task) api.Errno { return checkTask(s, t) }),
		checkMost(worksOf(s), api.MaxWorks),
	)
}

// checkTask returns the first error of an order.
func checkTask(s api.Shop, t api.Task) api.Errno {
	e := first(checkValue(t.Ready, 0, api.MaxHour), checkValue(t.Due, 0, api.MaxHour))
	switch {
	case e != api.OK:
		return e
	case len(t.Works) == 0:
		return api.ErrFew
	}
	return checkList(t.Works, func(w api.Work) api.Errno { return checkWork(s, w) })
}

// checkWork returns the first error of a work.
func checkWork(s api.Shop, w api.Work) api.Errno {
	if w.Bench < 0 || w.Bench >= s.Benches {
		return api.ErrUnknown
	}
	e := first(checkValue(w.Hours.Min, 1, api.MaxHours), checkValue(w.Hours.Max, 1, api.MaxHours))
	if e == api.OK && w.Hours.Min > w.Hours.Max {
		return api.ErrOrder
	}
	return e
}

// worksOf returns how many works a shop has.
func worksOf(s api.Shop) int {
	number := 0
	for _, t := range s.Tasks {
		number += len(t.Works)
	}
	return number
}

// checkTable returns the first error of a timetable: the lengths of all its lists come ahead of its hours.
func checkTable(s api.Shop, begins [][]int) api.Errno {
	if len(begins) != len(s.Tasks) {
		return api.ErrText
	}
	for order, hours := range begins {
		if len(hours) != len(s.Tasks[order].Works) {
			return api.ErrText
		}
	}
	return checkList(begins, func(hours []int) api.Errno {
		return checkList(hours, func(hour int) api.Errno { return checkValue(hour, 0, api.MaxHour) })
	})
}

// wrongPlan is the error of a plan: the first place that is not as it has to be, and why it is not.
type wrongPlan struct {
	place int
	why   api.Errno
}

// Error says it in words.
func (w wrongPlan) Error() string {
	return "place " + strconv.Itoa(w.place) + " of the plan: " + w.why.Error()
}

// check returns the error of the plan of a valid shop; it is a wrongPlan.
func (p schedule) check() error {
	var done tally
	all := allDone(p.Shop)
	for place, order := range p.plan {
		switch {
		case order < 0 || order >= len(p.Tasks):
			return wrongPlan{place, api.ErrUnknown}
		case done[order] == all[order]:
			return wrongPlan{place, api.ErrMany}
		}
		done = done.with(next(p.Shop, done, order))
	}
	if done != all {
		return wrongPlan{len(p.plan), api.ErrFew}
	}
	return nil
}

// checkMost returns the error of the length of a list.
func checkMost(n, most int) api.Errno {
	if n > most {
		return api.ErrMany
	}
	return api.OK
}

// checkValue returns the error of a number that has bounds.
func checkValue(n, least, most int) api.Errno {
	if n < least || n > most {
		return api.ErrValue
	}
	return api.OK
}

// checkList returns the first error of the items of a list.
func checkList[T any](list []T, check func(T) api.Errno) api.Errno {
	for _, item := range list {
		if e := check(item); e != api.OK {
			return e
		}
	}
	return api.OK
}

// first returns the first of several errors that is one.
func first(errors ...api.Errno) api.Errno {
	for _, e := range errors {
		if e != api.OK {
			return e
		}
	}
	return api.OK
}
