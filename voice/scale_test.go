package voice_test

import (
	"slices"
	"testing"

	"musette/api"
	"musette/voice"
)

// P5.4, P5.6: all truths of all tongues of small scales are gone through: Tremolo is just what they say.
func TestTremoloAll(t *testing.T) {
	d := dice(6)
	met, torn := map[int]int{}, 0
	for range 15000 {
		s := d.scale(3, 3)
		register := d.set(len(s.Rows))
		l := must[[]int](t)(voice.Tremolo(s, register))
		if len(l) != notesOf(s) {
			t.Fatal(s, register, l)
		}
		for note, v := range l {
			open := column(s, register, note)
			if v != verdictOf(countTruths(s.Law, note, open)) {
				t.Fatal(s, register, note, v)
			}
			met[v]++
			possible := v == api.Never
			for i := 1; i < len(open); i++ {
				possible = possible && verdictOf(countTruths(s.Law, note, open[i-1:i+1])) != api.Never
			}
			if possible {
				torn++
			}
		}
	}
	if min(met[api.Always], met[api.Never], met[api.Either]) < 1500 || torn < 30 {
		t.Error("too rare", met, torn)
	}
}

// P5.4: a tongue between two others may go with each of them, but not with both.
func TestTremoloTorn(t *testing.T) {
	s := api.Scale{Law: api.Law{First: 10, Span: 1, Press: 1}, Rows: [][]api.Sound{{flat(0, 0), flat(0, 0)}, {flat(9, 14), sound(to(10, 10), to(-3, 3))}, {flat(25, 25), sound(to(20, 20), to(3, 3))}, {flat(30, 30), flat(30, 30)}}}
	for i, c := range []struct{ register, want []int }{
		{[]int{0, 1}, []int{api.Either, api.Either}},
		{[]int{1, 2}, []int{api.Either, api.Either}},
		{[]int{0, 1, 2}, []int{api.Never, api.Never}},
		{[]int{2, 3}, []int{api.Never, api.Never}},
		{[]int{0, 1, 2, 3}, []int{api.Never, api.Never}},
	} {
		if l := must[[]int](t)(voice.Tremolo(s, c.register)); !slices.Equal(l, c.want) {
			t.Error(i, l)
		}
	}
}

// P5.4: the law counts between rows that come directly after each other in the register, at the note of the tongue.
func TestTremoloRows(t *testing.T) {
	s := api.Scale{Law: api.Law{First: 10, Step: 1}, Rows: [][]api.Sound{{flat(0, 0), flat(0, 0)}, {flat(5, 5), flat(11, 11)}, {flat(10, 10), flat(22, 22)}}}
	for i, c := range []struct {
		register, want  []int
		span, note, row int
		x               api.Errno
	}{
		{[]int{0, 2}, []int{api.Always, api.Never}, 11, 1, 0, api.OK},
		{[]int{0, 1}, []int{api.Never, api.Always}, 5, 0, 0, api.OK},
		{[]int{1, 2}, []int{api.Never, api.Always}, 5, 0, 1, api.OK},
		{[]int{0, 1, 2}, []int{api.Never, api.Always}, 5, 0, 0, api.OK},
		{[]int{2}, []int{api.Always, api.Always}, 0, 0, 0, api.ErrNone},
		{nil, []int{api.Always, api.Always}, 0, 0, 0, api.ErrNone},
	} {
		l := must[[]int](t)(voice.Tremolo(s, c.register))
		span := must[int](t)(voice.Span(s, c.register))
		note, row, x := voice.Bad(s, c.register)
		if !slices.Equal(l, c.want) || span != c.span || note != c.note || row != c.row || x != c.x {
			t.Error(i, l, span, note, row, x)
		}
	}
	for i, c := range []struct {
		s        api.Scale
		register []int
		notes    int
	}{
		{api.Scale{}, nil, 0},
		{api.Scale{Rows: make([][]api.Sound, 4)}, []int{0, 3}, 0},
		{api.Scale{Rows: [][]api.Sound{make([]api.Sound, 6)}}, nil, 6},
	} {
		l := must[[]int](t)(voice.Tremolo(c.s, c.register))
		note, row, x := voice.Bad(c.s, c.register)
		if span := must[int](t)(voice.Span(c.s, c.register)); len(l) != c.notes || span != 0 || note != 0 || row != 0 || x != api.ErrNone {
			t.Error(i, l, span, note, row, x)
		}
	}
}

// P5.4, P5.12: all spans and all pairs of rows are gone through: Span is the least one with which each note always keeps the law, Bad the first note that does not.
func TestSpanAll(t *testing.T) {
	d := dice(7)
	var late, beyond, good, below int
	for range 15000 {
		s := d.scale(3, 3)
		if d.roll(0, 3) == 0 && notesOf(s) > 0 { // so that a beat may be far off
			for _, row := range s.Rows {
				row[0].Tone = to(-30, d.roll(-30, -27))
			}
		}
		register := d.set(len(s.Rows))
		want, wantNote, wantRow := 0, -1, -1
		for note := range notesOf(s) {
			for i := 1; i < len(register); i++ {
				pair := column(s, register[i-1:i+1], note)
				l := s.Law
				for l.Span = want; verdictOf(countTruths(l, note, pair)) != api.Always; l.Span++ {
				}
				want = l.Span
				if wantNote < 0 && verdictOf(countTruths(s.Law, note, pair)) != api.Always {
					wantNote, wantRow = note, register[i-1]
				}
			}
		}
		if span := must[int](t)(voice.Span(s, register)); span != want {
			t.Fatal(s, register, span, want)
		}
		note, row, x := voice.Bad(s, register)
		if wantNote < 0 {
			if x != api.ErrNone || note != 0 || row != 0 {
				t.Fatal(s, register, note, row, x)
			}
			good++
		} else if x != api.OK || note != wantNote || row != wantRow {
			t.Fatal(s, register, note, row, x, wantNote, wantRow)
		}
		if wantNote > 0 && wantRow > register[0] {
			late++
		}
		if want > api.MaxSpan {
			beyond++
		}
		if want < s.Span {
			below++
		}
	}
	if min(late, beyond, good, below) < 30 {
		t.Error("too rare", late, beyond, good, below)
	}
}
