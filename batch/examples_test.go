package batch_test

import (
	"slices"
	"testing"

	"musette/api"
	"musette/batch"
)

// P9.1: the examples of Check, Left, Rest and Stands.
func TestExamplesCheck(t *testing.T) {
	for i, c := range []struct {
		j    api.Journal
		want api.Errno
	}{
		{journalJ(), api.OK},
		{but(func(j *api.Journal) { j.Instruments = 5 }), api.ErrValue},
		{but(func(j *api.Journal) { j.First = nil }), api.ErrFew},
		{but(func(j *api.Journal) { j.Moves[0].Bin = 2 }), api.ErrUnknown},
		{but(func(j *api.Journal) { j.Moves[0].Instrument = 1 }), api.ErrValue},
		{but(func(j *api.Journal) { j.Moves[0].Amount = to(3, 2) }), api.ErrOrder},
	} {
		if e := batch.Check(c.j); e != c.want {
			t.Error(i, e)
		}
	}
	for i, c := range []struct {
		j          api.Journal
		left, rest []api.Range
	}{
		{journalJ(), []api.Range{to(0, 1), to(0, 0)}, []api.Range{to(0, 0), to(0, 1)}},
		{journalK(), []api.Range{to(1, 1), to(0, 0)}, []api.Range{to(0, 0), to(1, 1)}},
	} {
		left, e := batch.Left(c.j)
		rest, f := batch.Rest(c.j)
		if !slices.Equal(left, c.left) || !slices.Equal(rest, c.rest) || e != api.OK || f != api.OK {
			t.Error(i, left, rest, e, f)
		}
	}
	for i, j := range []api.Journal{journalJ(), journalK(), journalL(), more(journalJ(), count(0, 3, 3))} {
		if is, e := batch.Stands(j); is != (i < 3) || e != api.OK {
			t.Error(i, is, e)
		}
	}
}

// P9.2: the examples of Holds and Amount.
func TestExamplesHolds(t *testing.T) {
	for i, c := range []struct {
		j    api.Journal
		want [][]int
	}{
		{journalJ(), [][]int{{always, never}, {always, either}, {never, always}}},
		{journalK(), [][]int{{always, never}, {always, never}, {never, always}}},
		{journalL(), [][]int{{either, either}, {either, either}, {either, either}}},
	} {
		if holds, e := batch.Holds(c.j); !slices.EqualFunc(holds, c.want, slices.Equal) || e != api.OK {
			t.Error(i, holds, e)
		}
	}
	for i, c := range []struct {
		j                 api.Journal
		instrument, batch int
		want              api.Range
	}{{journalJ(), 1, 0, to(1, 2)}, {journalJ(), 1, 1, to(0, 1)}, {journalL(), 0, 0, to(0, 2)}} {
		if r, e := batch.Amount(c.j, c.instrument, c.batch); r != c.want || e != api.OK {
			t.Error(i, r, e)
		}
	}
}

// P9.3, P9.4: the examples of Has, Recall, Mixed and Suspects.
func TestExamplesRecall(t *testing.T) {
	for i, c := range []struct {
		batches, want []int
	}{{[]int{1}, []int{never, either, always}}, {[]int{0, 1}, []int{always, always, always}}, {nil, []int{never, never, never}}} {
		if has, e := batch.Has(journalJ(), c.batches); !slices.Equal(has, c.want) || e != api.OK {
			t.Error(i, has, e)
		}
	}
	for i, c := range []struct {
		j             api.Journal
		recall, mixed []int
	}{
		{journalJ(), []int{1, 2}, []int{never, either, never}},
		{journalK(), []int{2}, []int{never, never, never}},
		{journalL(), []int{0, 1, 2}, []int{either, never, never}},
	} {
		recall, e := batch.Recall(c.j, []int{1})
		mixed, f := batch.Mixed(c.j)
		if !slices.Equal(recall, c.recall) || !slices.Equal(mixed, c.mixed) || e != api.OK || f != api.OK {
			t.Error(i, recall, mixed, e, f)
		}
	}
	for i, c := range []struct {
		j               api.Journal
		bad, good, want []int
		e               api.Errno
	}{
		{journalJ(), []int{1, 2}, []int{0}, []int{1}, api.OK},
		{journalJ(), []int{0}, []int{1}, nil, api.ErrNone},
		{journalL(), []int{0, 1}, nil, []int{0}, api.OK},
	} {
		if suspects, e := batch.Suspects(c.j, c.bad, c.good); !slices.Equal(suspects, c.want) || e != c.e {
			t.Error(i, suspects, e)
		}
	}
}

// P9.5, P9.6, P9.7: the examples of Wrong, Works and Write.
func TestExamplesWorks(t *testing.T) {
	for i, c := range []struct {
		j    api.Journal
		want []int
	}{{journalJ(), nil}, {more(journalJ(), count(0, 3, 3)), []int{5}}} {
		if wrong, e := batch.Wrong(c.j); !slices.Equal(wrong, c.want) || e != api.OK {
			t.Error(i, wrong, e)
		}
	}
	j, e := batch.Works(journalJ(), shopOf(2, task(3, work(0, 1, 1)), task(0, work(1, 1, 1))), []int{0, 1})
	if want := more(journalJ(), out(1, 1, 1, 1), out(0, 0, 1, 1)); !equal(j, want) || e != api.OK {
		t.Error(j, e)
	}
	last := after(journalL(), func(j *api.Journal) { j.Moves = j.Moves[3:] })
	if text, e := batch.Write(last); text != "journal|3|fa\nout|1|?|1|1\nend\n" || e != api.OK {
		t.Error(text, e)
	}
}
