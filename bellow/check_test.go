package bellow_test

import (
	"math"
	"slices"
	"testing"

	"musette/api"
	"musette/bellow"
)

// numbers are numbers within bounds, at their ends, and beyond them.
var numbers = []int{math.MinInt, -1, 0, 1, 2, 4, 5, 6, 8, 9, 10, 19, 20, 21, 199, 200, 201, 399, 400, 401, math.MaxInt}

// rangeError returns the error of a range whose numbers are from 0 to the greatest one.
func rangeError(r api.Range, most int) api.Errno {
	switch {
	case r.Min < 0 || r.Min > most || r.Max < 0 || r.Max > most:
		return api.ErrValue
	case r.Min > r.Max:
		return api.ErrOrder
	}
	return api.OK
}

// P4.1: Full and all seconds have their bounds.
func TestCheckValues(t *testing.T) {
	bounded := func(n, least, most int) api.Errno {
		if n < least || n > most {
			return api.ErrValue
		}
		return api.OK
	}
	for _, n := range numbers {
		if x := bellow.Check(tight(n, 0, 0)); x != bounded(n, 1, 200) {
			t.Error("full", n, x)
		}
		if x := bellow.Check(but(func(b *api.Bellow) { b.Tests[0].Seconds = n })); x != bounded(n, 1, 20) {
			t.Error("seconds of a test", n, x)
		}
		if x := bellow.Piece([]api.Note{note(20, 0, 9), note(n, 0, 0)}); x != bounded(n, 1, 20) {
			t.Error("seconds of a note", n, x)
		}
	}
	if x := bellow.Check(api.Bellow{}); x != api.ErrValue {
		t.Error(x)
	}
	if x := bellow.Piece([]api.Note{{}}); x != api.ErrValue {
		t.Error(x)
	}
}

// P4.1: both numbers of a range have their bounds, which come ahead of their order.
func TestCheckRanges(t *testing.T) {
	for _, least := range numbers {
		for _, most := range numbers {
			r := to(least, most)
			for _, full := range []int{1, 9, 20, 200} {
				if x := bellow.Check(api.Bellow{Full: full, Air: r}); x != rangeError(r, full) {
					t.Error("air", full, r, x)
				}
			}
			for corner := range 2 {
				if x := bellow.Check(but(func(b *api.Bellow) { b.Corners[corner] = r })); x != rangeError(r, 5) {
					t.Error("corner", r, x)
				}
			}
			if x := bellow.Check(but(func(b *api.Bellow) { b.Tests[0].Lost = r })); x != rangeError(r, 400) {
				t.Error("lost", r, x)
			}
			if x := bellow.Piece([]api.Note{rest(1, 0, 0), note(1, least, most)}); x != rangeError(r, 9) {
				t.Error("air of a note", r, x)
			}
		}
	}
}

// P4.1: there are at most four corners, three tests and six notes.
func TestCheckMany(t *testing.T) {
	many := func(n, most int) api.Errno {
		if n > most {
			return api.ErrMany
		}
		return api.OK
	}
	for n := range 12 {
		if x := bellow.Check(but(func(b *api.Bellow) { b.Corners, b.Tests = make([]api.Range, n), nil })); x != many(n, 4) {
			t.Error("corners", n, x)
		}
		if x := bellow.Check(but(func(b *api.Bellow) { b.Tests = slices.Repeat(b.Tests, n) })); x != many(n, 3) {
			t.Error("tests", n, x)
		}
		if x := bellow.Piece(slices.Repeat([]api.Note{note(1, 0, 0)}, n)); x != many(n, 6) {
			t.Error("notes", n, x)
		}
	}
	if x := bellow.Piece(make([]api.Note, 7)); x != api.ErrMany {
		t.Error(x)
	}
}

// opens are lists of corners of a bellows that has three of them, and their errors.
var opens = []struct {
	open []int
	want api.Errno
}{
	{nil, api.ErrFew}, {[]int{}, api.ErrFew},
	{[]int{0}, api.OK}, {[]int{2}, api.OK}, {[]int{0, 2}, api.OK}, {[]int{0, 1, 2}, api.OK},
	{[]int{-1}, api.ErrUnknown}, {[]int{3}, api.ErrUnknown}, {[]int{math.MinInt}, api.ErrUnknown}, {[]int{math.MaxInt}, api.ErrUnknown},
	{[]int{0, 0}, api.ErrOrder}, {[]int{1, 0}, api.ErrOrder}, {[]int{0, 2, 1}, api.ErrOrder},
	{[]int{0, 3}, api.ErrUnknown}, {[]int{0, 0, 3}, api.ErrOrder}, {[]int{3, 0, 0}, api.ErrUnknown}, {[]int{2, -1}, api.ErrUnknown}, {[]int{2, 1, -1}, api.ErrOrder},
}

// P4.1: the corners of a test are looked at one by one, ahead of its numbers.
func TestCheckOpen(t *testing.T) {
	for _, c := range opens {
		for _, wrong := range []bool{false, true} {
			test, want := lost(1, 0, 400, c.open...), c.want
			if wrong {
				test.Seconds, test.Lost = 0, to(2, 1)
				if want == api.OK {
					want = api.ErrValue
				}
			}
			b := but(func(b *api.Bellow) { b.Corners, b.Tests = append(b.Corners, to(0, 0)), append(b.Tests, test) })
			if x := bellow.Check(b); x != want {
				t.Error(c.open, wrong, x)
			}
		}
	}
	b := tight(1, 0, 0)
	b.Tests = []api.Leakage{lost(1, 0, 0, 0)}
	if x := bellow.Check(b); x != api.ErrUnknown {
		t.Error(x)
	}
}

// change is a change of a bellows, and the error that is due to it.
type change struct {
	name string
	make func(b *api.Bellow)
	want api.Errno
}

// changes returns changes of a bellows, in the order of their errors.
func changes() []change {
	return []change{
		{"full", func(b *api.Bellow) { b.Full = 0 }, api.ErrValue},
		{"air is in order", func(b *api.Bellow) { b.Air = to(41, 40) }, api.ErrOrder},
		{"corners", func(b *api.Bellow) { b.Corners = append(b.Corners, to(9, 8), to(9, 8), to(9, 8)) }, api.ErrMany},
		{"order of a corner", func(b *api.Bellow) { b.Corners[0] = to(2, 1) }, api.ErrOrder},
		{"value of a corner", func(b *api.Bellow) { b.Corners[1] = to(6, 5) }, api.ErrValue},
		{"tests", func(b *api.Bellow) { b.Tests = append(b.Tests, api.Leakage{}, api.Leakage{}, api.Leakage{}) }, api.ErrMany},
		{"seconds of a test", func(b *api.Bellow) { b.Tests[0].Seconds = 21 }, api.ErrValue},
		{"order of what a test lost", func(b *api.Bellow) { b.Tests[0].Lost = to(3, 2) }, api.ErrOrder},
		{"corner of a later test", func(b *api.Bellow) { b.Tests = append(b.Tests, lost(0, 2, 1, 2)) }, api.ErrUnknown},
	}
}

// P4.1: the first error counts, in the order in which the chapter names them.
func TestCheckOrder(t *testing.T) {
	all := changes()
	for i, one := range all {
		for _, other := range all[i:] {
			b := bellowsB()
			other.make(&b)
			if other.name != one.name {
				one.make(&b)
			}
			if x := bellow.Check(b); x != one.want {
				t.Error(one.name, other.name, x)
			}
		}
	}
	for i, c := range []struct {
		p    []api.Note
		want api.Errno
	}{
		{[]api.Note{note(1, 2, 1), note(0, 0, 0)}, api.ErrOrder},
		{[]api.Note{note(1, 0, 10), note(1, 2, 1)}, api.ErrValue},
		{[]api.Note{note(0, 2, 1)}, api.ErrValue},
		{[]api.Note{note(21, 2, 1), note(1, 2, 1)}, api.ErrValue},
		{[]api.Note{rest(1, 0, 9), note(1, 2, 1), note(0, 0, 10)}, api.ErrOrder},
	} {
		if x := bellow.Piece(c.p); x != c.want {
			t.Error(i, x)
		}
	}
}

// call is a call of a function of the package: whether its other results are zero values, and its error.
type call struct {
	name string
	of   func(b api.Bellow) (bool, api.Errno)
}

// empty tells whether a list is empty.
func empty[T any](list []T, x api.Errno) (bool, api.Errno) { return len(list) == 0, x }

// nought tells whether a result is its zero value.
func nought[T comparable](result T, x api.Errno) (bool, api.Errno) {
	var zero T
	return result == zero, x
}

// none tells whether there are no ways, and no turns.
func none(ways []int, turns int, x api.Errno) (bool, api.Errno) {
	return len(ways) == 0 && turns == 0, x
}

// ofBellows returns calls of the functions that take a bellows, but no piece.
func ofBellows(air, way int, test api.Leakage) []call {
	return []call{
		{"Leaks", func(b api.Bellow) (bool, api.Errno) { return empty(bellow.Leaks(b)) }},
		{"Leak", func(b api.Bellow) (bool, api.Errno) { return nought(bellow.Leak(b)) }},
		{"Most", func(b api.Bellow) (bool, api.Errno) { return empty(bellow.Most(b)) }},
		{"Holds", func(b api.Bellow) (bool, api.Errno) { return nought(bellow.Holds(b, air, way)) }},
		{"With", func(b api.Bellow) (bool, api.Errno) {
			b, x := bellow.With(b, test)
			return isZero(b), x
		}},
	}
}

// ofPieces returns calls of the functions that take a piece; the first two take its ways, too.
func ofPieces(p []api.Note, ways []int) []call {
	return []call{
		{"Levels", func(b api.Bellow) (bool, api.Errno) { return empty(bellow.Levels(b, p, ways)) }},
		{"Plays", func(b api.Bellow) (bool, api.Errno) { return nought(bellow.Plays(b, p, ways)) }},
		{"Turns", func(b api.Bellow) (bool, api.Errno) { return none(bellow.Turns(b, p)) }},
		{"Hope", func(b api.Bellow) (bool, api.Errno) { return none(bellow.Hope(b, p)) }},
		{"Stuck", func(b api.Bellow) (bool, api.Errno) { return nought(bellow.Stuck(b, p)) }},
		{"Mend", func(b api.Bellow) (bool, api.Errno) { return empty(bellow.Mend(b, p)) }},
		{"Rests", func(b api.Bellow) (bool, api.Errno) { return empty(bellow.Rests(b, p)) }},
		{"Write", func(b api.Bellow) (bool, api.Errno) { return nought(bellow.Write(b, p)) }},
	}
}

// P4.1 to P4.6: each function returns the error of the bellows ahead of all others, with zero values.
func TestErrorsOfBellows(t *testing.T) {
	right := slices.Concat(ofBellows(0, 1, bellowsB().Tests[0]), ofPieces(pieceP(), []int{1, 2, 2}))
	wrong := slices.Concat(ofBellows(10, 3, api.Leakage{}), ofPieces(make([]api.Note, 7), []int{3}))
	for _, c := range changes() {
		for _, f := range slices.Concat(right, wrong) {
			if zero, x := f.of(but(c.make)); !zero || x != c.want {
				t.Error(f.name, c.name, zero, x)
			}
		}
	}
	for _, f := range right {
		if _, x := f.of(bellowsB()); x != api.OK {
			t.Error(f.name, x)
		}
	}
}

// P4.3 to P4.6: the error of the piece comes next, ahead of the ways, and of there being no truth.
func TestErrorsOfPieces(t *testing.T) {
	against := but(func(b *api.Bellow) { b.Corners[1] = to(0, 0) })
	for _, c := range []struct {
		p    []api.Note
		want api.Errno
	}{
		{[]api.Note{note(0, 0, 0)}, api.ErrValue},
		{[]api.Note{note(20, 9, 9), note(1, 0, 10)}, api.ErrValue},
		{[]api.Note{note(1, 3, 2)}, api.ErrOrder},
		{slices.Repeat([]api.Note{note(20, 9, 9)}, 7), api.ErrMany},
	} {
		for _, ways := range [][]int{nil, {3, 4, 5}, slices.Repeat([]int{1}, len(c.p)), make([]int, 99)} {
			for _, f := range ofPieces(c.p, ways) {
				for _, b := range []api.Bellow{bellowsB(), against} {
					if zero, x := f.of(b); !zero || x != c.want {
						t.Error(f.name, c.p, zero, x)
					}
				}
			}
		}
	}
}

// P4.3: ways are as many as notes, then one by one valid, and turn at rests alone; that comes ahead of there being no truth.
func TestErrorsOfWays(t *testing.T) {
	against := but(func(b *api.Bellow) { b.Corners[1] = to(0, 0) })
	p := []api.Note{rest(1, 0, 0), note(1, 0, 0), rest(1, 0, 0)}
	for _, c := range []struct {
		p    []api.Note
		ways []int
		want api.Errno
	}{
		{p, nil, api.ErrFew}, {p, []int{9, 9}, api.ErrFew}, {p, []int{1, 2, 9, 9}, api.ErrMany}, {nil, []int{0}, api.ErrMany}, {nil, nil, api.OK},
		{p, []int{0, 1, 1}, api.ErrKind}, {p, []int{3, 1, 1}, api.ErrKind}, {p, []int{math.MinInt, 1, 1}, api.ErrKind}, {p, []int{1, 1, math.MaxInt}, api.ErrKind},
		{p, []int{1, 3, 2}, api.ErrKind}, {p, []int{1, 2, 3}, api.ErrOrder}, {p, []int{2, 1, 2}, api.ErrOrder}, {p, []int{1, 1, 3}, api.ErrKind},
		{p, []int{1, 1, 1}, api.OK}, {p, []int{1, 1, 2}, api.OK}, {p, []int{2, 2, 1}, api.OK}, {p, []int{2, 2, 2}, api.OK},
		{pieceQ(), []int{1, 1, 2}, api.ErrOrder}, {pieceQ(), []int{2, 1, 1}, api.ErrOrder}, {pieceQ(), []int{2, 2, 2}, api.OK},
	} {
		for _, f := range ofPieces(c.p, c.ways)[:2] {
			if zero, x := f.of(bellowsB()); x != c.want || x != api.OK && !zero {
				t.Error(f.name, c.ways, zero, x)
			}
			want := c.want
			if want == api.OK {
				want = api.ErrAgainst
			}
			if zero, x := f.of(against); x != want || !zero {
				t.Error(f.name, c.ways, zero, x)
			}
		}
	}
}

// P4.1 to P4.5: without a truth nothing is said; texts are written all the same.
func TestErrorsAgainst(t *testing.T) {
	for _, c := range []func(b *api.Bellow){
		func(b *api.Bellow) { b.Corners[1] = to(0, 0) },
		func(b *api.Bellow) { b.Tests[0].Lost = to(0, 9) },
		func(b *api.Bellow) { b.Tests[0].Lost = to(51, 400) },
		func(b *api.Bellow) { b.Tests[0].Lost = to(31, 39) },
		func(b *api.Bellow) { b.Tests = []api.Leakage{lost(1, 2, 2, 0), lost(1, 0, 0, 1)} },
		func(b *api.Bellow) { b.Tests = []api.Leakage{lost(1, 2, 2, 0, 1), lost(1, 2, 2, 0)} },
	} {
		for _, f := range slices.Concat(ofBellows(0, 1, lost(1, 0, 400, 0)), ofPieces(pieceP(), []int{1, 1, 1}), ofPieces(nil, nil), ofPieces([]api.Note{note(20, 9, 9)}, []int{2})) {
			zero, x := f.of(but(c))
			if f.name == "Write" && x != api.OK || f.name != "Write" && (!zero || x != api.ErrAgainst) {
				t.Error(f.name, zero, x)
			}
		}
	}
}

// P4.2: the errors of Holds, in their order.
func TestErrorsOfHolds(t *testing.T) {
	against := but(func(b *api.Bellow) { b.Corners[1] = to(0, 0) })
	for _, air := range numbers {
		for _, way := range []int{math.MinInt, -1, 0, 1, 2, 3, math.MaxInt} {
			want := api.OK
			if way != 1 && way != 2 {
				want = api.ErrKind
			}
			if air < 0 || air > 9 {
				want = api.ErrValue
			}
			if r, x := bellow.Holds(bellowsB(), air, way); x != want || x != api.OK && r != to(0, 0) {
				t.Error(air, way, r, x)
			}
			if want == api.OK {
				want = api.ErrAgainst
			}
			if r, x := bellow.Holds(against, air, way); x != want || r != to(0, 0) {
				t.Error(air, way, r, x)
			}
		}
	}
}

// P4.5: the errors of With, in their order.
func TestErrorsOfWith(t *testing.T) {
	three := but(func(b *api.Bellow) { b.Tests = slices.Repeat(b.Tests, 3) })
	against := but(func(b *api.Bellow) { b.Corners[1] = to(0, 0) })
	for i, c := range []struct {
		b    api.Bellow
		test api.Leakage
		want api.Errno
	}{
		{three, api.Leakage{}, api.ErrMany},
		{three, lost(10, 0, 400, 0), api.ErrMany},
		{bellowsB(), lost(0, 0, 1), api.ErrFew},
		{bellowsB(), lost(0, 0, 1, 2), api.ErrUnknown},
		{bellowsB(), lost(0, 0, 1, 1, 0), api.ErrOrder},
		{bellowsB(), lost(0, 2, 1, 0, 1), api.ErrValue},
		{bellowsB(), lost(1, 2, 401, 0, 1), api.ErrValue},
		{bellowsB(), lost(1, 2, 1, 0, 1), api.ErrOrder},
		{bellowsB(), lost(1, 4, 5, 0, 1), api.ErrAgainst},
		{bellowsB(), lost(10, 0, 9, 1), api.ErrAgainst},
		{against, lost(10, 0, 400, 1), api.ErrAgainst},
		{against, lost(10, 2, 1, 1), api.ErrOrder},
		{tight(1, 0, 0), lost(1, 0, 0, 0), api.ErrUnknown},
	} {
		if b, x := bellow.With(c.b, c.test); x != c.want || !isZero(b) {
			t.Error(i, b, x)
		}
	}
	for _, c := range opens {
		b := but(func(b *api.Bellow) { b.Corners = append(b.Corners, to(0, 0)) })
		if _, x := bellow.With(b, lost(1, 0, 400, c.open...)); x != c.want {
			t.Error(c.open, x)
		}
	}
}
