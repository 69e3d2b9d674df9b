package batch

import "musette/api"

// Check returns the first error of a journal.
func Check(j api.Journal) api.Errno {
	return first(
		checkValue(j.Instruments, 1, api.MaxInstruments),
		checkBins(len(j.First)),
		checkMost(len(j.Moves), api.MaxMoves),
		checkMoves(j),
	)
}

// checkBins returns the error of how many bins there are.
func checkBins(bins int) api.Errno {
	if bins == 0 {
		return api.ErrFew
	}
	return checkMost(bins, api.MaxBins)
}

// checkMoves returns the first error of the moves of a journal.
func checkMoves(j api.Journal) api.Errno {
	batches := 0
	for _, m := range j.Moves {
		if m.Kind == api.MoveIn {
			batches++
		}
		if e := first(checkMove(j, m), checkMost(batches, api.MaxBatches)); e != api.OK {
			return e
		}
	}
	return api.OK
}

// checkMove returns the first error of a move of a journal alone.
func checkMove(j api.Journal, m api.Move) api.Errno {
	return first(
		checkKind(m.Kind),
		checkNumber(m.Bin, len(j.First)),
		checkInstrument(j, m),
		checkValue(m.Amount.Min, 0, api.MaxAmount),
		checkValue(m.Amount.Max, 0, api.MaxAmount),
		checkOrder(m.Amount.Min, m.Amount.Max),
	)
}

// checkKind returns the error of the kind of a move.
func checkKind(kind int) api.Errno {
	switch kind {
	case api.MoveIn, api.MoveOut, api.MoveCount:
		return api.OK
	}
	return api.ErrKind
}

// checkInstrument returns the error of the instrument of a move.
func checkInstrument(j api.Journal, m api.Move) api.Errno {
	switch {
	case m.Kind != api.MoveOut:
		return checkValue(m.Instrument, 0, 0)
	case m.Instrument == lost:
		return api.OK
	}
	return checkNumber(m.Instrument, j.Instruments)
}

// checkSet returns the first error of a set of numbers, of which there are so many.
func checkSet(set []int, number int) api.Errno {
	least := 0
	for _, n := range set {
		if e := first(checkNumber(n, number), checkOrder(least, n)); e != api.OK {
			return e
		}
		least = n + 1
	}
	return api.OK
}

// checkNumber returns the error of the number of one of so many things.
func checkNumber(n, number int) api.Errno {
	if n < 0 || n >= number {
		return api.ErrUnknown
	}
	return api.OK
}

// checkOrder returns the error of two numbers of which the second one must not be less.
func checkOrder(a, b int) api.Errno {
	if a > b {
		return api.ErrOrder
	}
	return api.OK
}

// checkMost returns the error of the length of a list.
func checkMost(n, most int) api.Errno {
	if n > most {
		return api.ErrMany
	}
	return api.OK
}

// checkValue returns the error of a number that has bounds.
func checkValue(n, least, most int) api.Errno {
	if n < least || n > most {
		return api.ErrValue
	}
	return api.OK
}

// first returns the first of several errors that is one.
func first(errors ...api.Errno) api.Errno {
	for _, e := range errors {
		if e != api.OK {
			return e
		}
	}
	return api.OK
}
