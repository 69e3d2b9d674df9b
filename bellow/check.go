package bellow

import "musette/api"

// Check returns the first error of a bellows.
func Check(b api.Bellow) api.Errno {
	return first(
		checkValue(b.Full, 1, api.MaxAir),
		checkRange(b.Air, b.Full),
		checkList(b.Corners, api.MaxCorners, func(r api.Range) api.Errno { return checkRange(r, api.MaxLeak) }),
		checkList(b.Tests, api.MaxTests, func(t api.Leakage) api.Errno { return checkTest(b, t) }),
	)
}

// Piece returns the first error of a piece.
func Piece(p []api.Note) api.Errno {
	return checkList(p, api.MaxNotes, func(n api.Note) api.Errno {
		return first(checkValue(n.Seconds, 1, api.MaxLength), checkRange(n.Air, api.MaxDraw))
	})
}

// checkTest returns the error of a test of a bellows.
func checkTest(b api.Bellow, t api.Leakage) api.Errno {
	if len(t.Open) == 0 {
		return api.ErrFew
	}
	before := -1
	for _, corner := range t.Open {
		if corner < 0 || corner >= len(b.Corners) {
			return api.ErrUnknown
		}
		if corner <= before {
			return api.ErrOrder
		}
		before = corner
	}
	return first(checkValue(t.Seconds, 1, api.MaxLength), checkRange(t.Lost, api.MaxPiece))
}

// checkWays returns the error of ways for a valid piece.
func checkWays(p []api.Note, ways []int) api.Errno {
	if len(ways) < len(p) {
		return api.ErrFew
	}
	if len(ways) > len(p) {
		return api.ErrMany
	}
	for i, way := range ways {
		if x := checkWay(way); x != api.OK {
			return x
		}
		if i > 0 && way != ways[i-1] && !p[i].Rest {
			return api.ErrOrder
		}
	}
	return api.OK
}

// checkWay returns the error of one way.
func checkWay(way int) api.Errno {
	if way != api.WayPress && way != api.WayPull {
		return api.ErrKind
	}
	return api.OK
}

// checkList returns the error of a list that has at most so many items, each of which has its own error.
func checkList[T any](list []T, most int, check func(T) api.Errno) api.Errno {
	if len(list) > most {
		return api.ErrMany
	}
	for _, item := range list {
		if x := check(item); x != api.OK {
			return x
		}
	}
	return api.OK
}

// checkRange returns the error of a range whose numbers are from 0 to the greatest one.
func checkRange(r api.Range, most int) api.Errno {
	if x := first(checkValue(r.Min, 0, most), checkValue(r.Max, 0, most)); x != api.OK {
		return x
	}
	if r.Min > r.Max {
		return api.ErrOrder
	}
	return api.OK
}

// checkValue returns the error of a number that has bounds.
func checkValue(n, least, most int) api.Errno {
	if n < least || n > most {
		return api.ErrValue
	}
	return api.OK
}

// first returns the first of several errors that is one.
func first(errors ...api.Errno) api.Errno {
	for _, x := range errors {
		if x != api.OK {
			return x
		}
	}
	return api.OK
}
