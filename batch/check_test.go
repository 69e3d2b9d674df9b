package batch_test

import (
	"math"
	"slices"
	"testing"

	"musette/api"
	"musette/batch"
)

// extremes are numbers within bounds, at their ends, and beyond them.
var extremes = []int{math.MinInt, math.MinInt + 1, -6, -5, -4, -3, -2, -1, 0, 1, 2, 3, 4, 5, 6, 7, 9, 10, 11, 999, math.MaxInt - 1, math.MaxInt}

// bounded returns the error of a number that has bounds.
func bounded(n, least, most int) api.Errno { return no(n < least || n > most, api.ErrValue) }

// firstOf returns the first of several errors that is one.
func firstOf(errors ...api.Errno) api.Errno {
	for _, e := range errors {
		if e != api.OK {
			return e
		}
	}
	return api.OK
}

// no returns an error if something is wrong.
func no(wrong bool, e api.Errno) api.Errno {
	if wrong {
		return e
	}
	return api.OK
}

// P9.1: the numbers of a journal and of its moves have their bounds.
func TestCheckNumbers(t *testing.T) {
	for _, n := range extremes {
		if e := batch.Check(of(n, "f")); e != bounded(n, 1, 4) {
			t.Error("instruments", n, e)
		}
		for bins := 1; bins <= 2; bins++ {
			for kind, m := range []api.Move{in(n, 0, 0), out(n, 0, 0, 0), out(n, lost, 0, 0), count(n, 0, 0)} {
				if e := batch.Check(of(1, "fa"[:bins], m)); e != no(n < 0 || n >= bins, api.ErrUnknown) {
					t.Error("bin", bins, kind, n, e)
				}
			}
		}
		if e := batch.Check(of(1, "f", api.Move{Kind: n})); e != no(n < 1 || n > 3, api.ErrKind) {
			t.Error("kind", n, e)
		}
		for instruments := 1; instruments <= 4; instruments++ {
			if e := batch.Check(of(instruments, "f", out(0, n, 0, 0))); e != no(n < -1 || n >= instruments, api.ErrUnknown) {
				t.Error("instrument", instruments, n, e)
			}
			for _, kind := range []int{api.MoveIn, api.MoveCount} {
				if e := batch.Check(of(instruments, "f", api.Move{Kind: kind, Instrument: n})); e != no(n != 0, api.ErrValue) {
					t.Error("no instrument", kind, n, e)
				}
			}
		}
		for _, m := range extremes {
			want := firstOf(bounded(n, 0, 5), bounded(m, 0, 5), no(n > m, api.ErrOrder))
			for kind, move := range []api.Move{in(0, n, m), out(0, 0, n, m), out(0, lost, n, m), count(0, n, m)} {
				if e := batch.Check(of(1, "f", count(0, 0, 5), move)); e != want {
					t.Error("amount", kind, n, m, e)
				}
			}
		}
	}
}

// P9.1: there are one or two bins, at most ten moves, and at most four moves in.
func TestCheckMany(t *testing.T) {
	for n := range 6 {
		j := api.Journal{Instruments: 1, First: make([]bool, n)}
		if e := batch.Check(j); e != firstOf(no(n == 0, api.ErrFew), no(n > 2, api.ErrMany)) {
			t.Error("bins", n, e)
		}
	}
	for n := range 13 {
		if e := batch.Check(of(1, "f", slices.Repeat([]api.Move{count(0, 0, 0)}, n)...)); e != no(n > 10, api.ErrMany) {
			t.Error("moves", n, e)
		}
		for others := range 11 - min(n, 10) {
			moves := append(slices.Repeat([]api.Move{out(0, 0, 0, 0)}, others), slices.Repeat([]api.Move{in(0, 0, 0)}, n)...)
			if e := batch.Check(of(1, "f", moves...)); e != no(n > 4, api.ErrMany) {
				t.Error("moves in", n, others, e)
			}
		}
	}
	// Moves in of both bins count, and the fifth one is looked at itself before it is one too many.
	four := []api.Move{in(0, 0, 0), in(1, 0, 0), in(0, 0, 0), in(1, 0, 0)}
	for i, c := range []struct {
		m    api.Move
		want api.Errno
	}{{in(0, 0, 0), api.ErrMany}, {in(1, 1, 0), api.ErrOrder}, {in(2, 0, 0), api.ErrUnknown}, {in(1, 0, 6), api.ErrValue}, {count(0, 0, 0), api.OK}, {out(1, 0, 0, 0), api.OK}} {
		if e := batch.Check(of(1, "ff", append(slices.Clone(four), c.m, api.Move{Kind: 7})...)); e != firstOf(c.want, api.ErrKind) {
			t.Error(i, e)
		}
		if e := batch.Check(of(1, "ff", append(slices.Clone(four), c.m)...)); e != c.want {
			t.Error(i, e)
		}
	}
}

// change is a change of a journal, and the error that is due to it.
type change struct {
	name string
	make func(*api.Journal)
	want api.Errno
}

// changes returns changes in the order in which the chapter names their errors.
func changes() []change {
	list := []change{
		{"instruments", func(j *api.Journal) { j.Instruments = 5 }, api.ErrValue},
		{"no bins", func(j *api.Journal) { j.First = nil }, api.ErrFew},
		{"bins", func(j *api.Journal) { j.First = make([]bool, 3) }, api.ErrMany},
		{"moves", func(j *api.Journal) { j.Moves = append(j.Moves, make([]api.Move, 6)...) }, api.ErrMany},
	}
	for i, m := range journalJ().Moves {
		instrument := change{"instrument", func(j *api.Journal) { j.Moves[i].Instrument = 4 }, api.ErrValue}
		if m.Kind == api.MoveOut {
			instrument.want = api.ErrUnknown
		}
		list = append(list,
			change{"kind", func(j *api.Journal) { j.Moves[i].Kind += 9 }, api.ErrKind},
			change{"bin", func(j *api.Journal) { j.Moves[i].Bin = 3 }, api.ErrUnknown},
			instrument,
			change{"amount", func(j *api.Journal) { j.Moves[i].Amount = to(6, 0) }, api.ErrValue},
			change{"order", func(j *api.Journal) { j.Moves[i].Amount = to(2, 1) }, api.ErrOrder},
		)
	}
	return append(list, change{"moves in", func(j *api.Journal) {
		j.Moves = append(j.Moves, in(0, 0, 0), in(0, 0, 0), in(0, 0, 0))
	}, api.ErrMany})
}

// P9.1, R1: of two errors of a journal the one that the chapter names first is returned, move by move.
func TestCheckOrder(t *testing.T) {
	list := changes()
	for i, one := range list {
		for _, other := range list[i:] {
			both := journalJ()
			other.make(&both)
			one.make(&both)
			if e := batch.Check(both); e != one.want {
				t.Error(one.name, "and", other.name, e)
			}
		}
	}
}

// setError returns the error of a set of so many things, in the words of the chapter.
func setError(set []int, number int) api.Errno {
	for i, n := range set {
		if n < 0 || n >= number {
			return api.ErrUnknown
		}
		if i > 0 && n <= set[i-1] {
			return api.ErrOrder
		}
	}
	return api.OK
}

// someLists returns lists that are sets, and others.
func someLists() [][]int {
	lists := [][]int{nil, {0}, {1}, {0, 1}, {0, 1, 2}, {0, 2}, {1, 2}, {0, 1, 3}, {0, 1, 2, 3}, {1, 0}, {1, 1}, {0, 0}, {0, 1, 1}, {1, 0, 9}, {0, 9, 1}, {9, 9}, {2, 1, -1}, {-1, 0}, {0, -1}, slices.Repeat([]int{0}, 20), slices.Repeat([]int{1}, 2000)}
	for _, n := range extremes {
		lists = append(lists, []int{n}, []int{0, n}, []int{1, n, 0})
	}
	return lists
}

// P9.3, P9.4, R1, R3: the sets of batches and of instruments are looked at number by number; with an error there is no other result.
func TestErrorsOfSets(t *testing.T) {
	met := map[api.Errno]int{}
	for _, list := range someLists() {
		for _, j := range []api.Journal{journalJ(), journalL(), of(1, "a"), of(4, "f", in(0, 1, 1))} {
			want := setError(list, batchesOf(j))
			has, e := batch.Has(j, list)
			recall, f := batch.Recall(j, list)
			if e != want || f != want || want != api.OK && len(has)+len(recall) > 0 {
				t.Error(j, list, has, recall, e, f)
			}
			met[want]++
			for _, other := range [][]int{nil, {0, 0}, {7}} {
				want := firstOf(setError(list, j.Instruments), setError(other, j.Instruments))
				if l, e := batch.Suspects(j, list, other); want != api.OK && (e != want || len(l) > 0) || want == api.OK && e != api.OK && e != api.ErrNone {
					t.Error(j, list, other, l, e)
				}
				want = firstOf(setError(other, j.Instruments), setError(list, j.Instruments))
				if l, e := batch.Suspects(j, other, list); want != api.OK && (e != want || len(l) > 0) || want == api.OK && e != api.OK && e != api.ErrNone {
					t.Error(j, other, list, l, e)
				}
			}
		}
	}
	if min(met[api.OK], met[api.ErrUnknown], met[api.ErrOrder]) < 5 {
		t.Error("too rare", met)
	}
}

// P9.2, R1, R3: Amount is asked of an instrument and of a batch of the journal.
func TestErrorsOfAmount(t *testing.T) {
	for _, j := range []api.Journal{journalJ(), of(1, "f"), of(4, "f", in(0, 0, 0)), more(journalJ(), count(0, 3, 3))} {
		for _, i := range extremes {
			for _, b := range extremes {
				want := no(i < 0 || i >= j.Instruments || b < 0 || b >= batchesOf(j), api.ErrUnknown)
				if want == api.OK && !must[bool](t)(batch.Stands(j)) {
					want = api.ErrAgainst
				}
				if r, e := batch.Amount(j, i, b); e != want || e != api.OK && r != to(0, 0) {
					t.Error(j, i, b, r, e)
				}
			}
		}
	}
}

// checkAsked calls all functions that need a journal that stands, which return this error, and then nothing else.
func checkAsked(t *testing.T, j api.Journal, want api.Errno) {
	t.Helper()
	left, e1 := batch.Left(j)
	rest, e2 := batch.Rest(j)
	holds, e3 := batch.Holds(j)
	has, e4 := batch.Has(j, nil)
	recall, e5 := batch.Recall(j, nil)
	mixed, e6 := batch.Mixed(j)
	suspects, e7 := batch.Suspects(j, nil, nil)
	if errors := []api.Errno{e1, e2, e3, e4, e5, e6, e7}; !slices.Equal(errors, slices.Repeat([]api.Errno{want}, 7)) {
		t.Error(j, errors, want)
	}
	if len(left)+len(rest)+len(holds)+len(has)+len(recall)+len(mixed)+len(suspects) > 0 {
		t.Error(j, left, rest, holds, has, recall, mixed, suspects)
	}
}

// checkAgainst ends the test unless all functions say that a valid journal does not stand.
func checkAgainst(t *testing.T, j api.Journal) {
	t.Helper()
	checkAsked(t, j, api.ErrAgainst)
	if is, e := batch.Stands(j); is || e != api.OK {
		t.Error(j, is, e)
	}
	if batchesOf(j) > 0 {
		if r, e := batch.Amount(j, 0, 0); r != to(0, 0) || e != api.ErrAgainst {
			t.Error(j, r, e)
		}
	}
	for _, list := range [][]int{{9}, {0, 0}} { // the sets are looked at first
		_, e := batch.Has(j, list)
		_, f := batch.Recall(j, list)
		_, g := batch.Suspects(j, list, nil)
		_, h := batch.Suspects(j, nil, list)
		if want := setError(list, batchesOf(j)); e != want || f != want {
			t.Error(j, list, e, f)
		}
		if want := setError(list, j.Instruments); g != want || h != want {
			t.Error(j, list, g, h)
		}
	}
}

// P9.1 to P9.7, R1, R3: the error of the journal comes ahead of all others, and with an error there is no other result.
func TestErrorsOfJournals(t *testing.T) {
	for _, c := range changes() {
		j := but(c.make)
		j.Moves = append(j.Moves, count(0, 0, 0), count(0, 1, 1))
		want := batch.Check(j)
		if want == api.OK {
			t.Fatal(c.name)
		}
		checkAsked(t, j, want)
		is, e1 := batch.Stands(j)
		r, e2 := batch.Amount(j, -1, -1)
		has, e3 := batch.Has(j, []int{9})
		recall, e4 := batch.Recall(j, []int{9})
		suspects, e5 := batch.Suspects(j, []int{9}, []int{9})
		wrong, e6 := batch.Wrong(j)
		longer, e7 := batch.Works(j, api.Shop{}, []int{9})
		text, e8 := batch.Write(j)
		if errors := []api.Errno{e1, e2, e3, e4, e5, e6, e7, e8}; !slices.Equal(errors, slices.Repeat([]api.Errno{want}, 8)) {
			t.Error(c.name, errors, want)
		}
		if is || r != to(0, 0) || len(has)+len(recall)+len(suspects)+len(wrong)+len(text) > 0 || !isZero(longer) {
			t.Error(c.name, is, r, has, recall, suspects, wrong, longer, text)
		}
	}
}

// P9.1, P9.2: journals that do not stand, because nothing is taken that is not there, and bins hold what was counted.
func TestErrorsOfAgainst(t *testing.T) {
	for _, j := range []api.Journal{
		of(1, "f", out(0, 0, 1, 1)),
		of(1, "a", out(0, lost, 1, 5)),
		of(1, "a", out(0, 0, 1, 1), in(0, 5, 5)),
		of(1, "aa", in(0, 5, 5), out(1, 0, 1, 1)),
		of(2, "f", in(0, 0, 2), out(0, 0, 2, 2), out(0, 1, 1, 1)),
		of(1, "f", count(0, 1, 5)),
		of(1, "f", in(0, 2, 3), count(0, 0, 1)),
		of(1, "f", in(0, 2, 3), count(0, 4, 5)),
		of(1, "ff", in(0, 2, 2), count(1, 2, 2)),
		of(1, "f", in(0, 0, 5), count(0, 3, 3), out(0, 0, 1, 2), count(0, 3, 3)),
		of(1, "a", in(0, 0, 5), count(0, 3, 3), count(0, 2, 2)),
		of(1, "f", in(0, 5, 5), in(0, 5, 5), count(0, 5, 5)),
	} {
		checkAgainst(t, j)
	}
	for _, j := range []api.Journal{
		of(1, "f"),
		of(1, "f", out(0, 0, 0, 5), count(0, 0, 5)),
		of(1, "f", in(0, 0, 2), out(0, 0, 2, 5)),
		of(1, "f", in(0, 2, 3), out(0, 0, 0, 1), count(0, 1, 1)),
		of(1, "f", in(0, 0, 5), count(0, 3, 3), out(0, 0, 0, 2), count(0, 3, 3)),
	} {
		if !must[bool](t)(batch.Stands(j)) {
			t.Error(j)
		}
	}
}
