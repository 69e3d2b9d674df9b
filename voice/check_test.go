package voice_test

import (
	"math"
	"slices"
	"testing"

	"musette/api"
	"musette/voice"
)

// extremes are numbers within bounds, at their ends, and beyond them.
var extremes = []int{math.MinInt, math.MinInt + 1, -31, -30, -6, -5, -4, -3, -1, 0, 1, 3, 4, 5, 6, 7, 11, 12, 13, 20, 21, 30, 31, 60, 61, 100, 101, math.MaxInt}

// bounded returns the error of a number that has bounds.
func bounded(n, least, most int) api.Errno {
	if n < least || n > most {
		return api.ErrValue
	}
	return api.OK
}

// ordered returns the error of a range whose numbers have bounds.
func ordered(r api.Range, least, most int) api.Errno {
	if bounded(r.Min, least, most) != api.OK || bounded(r.Max, least, most) != api.OK {
		return api.ErrValue
	}
	if r.Min > r.Max {
		return api.ErrOrder
	}
	return api.OK
}

// many returns the error of a list with at most so many items.
func many(n, most int) api.Errno {
	if n > most {
		return api.ErrMany
	}
	return api.OK
}

// P5.1, P5.4: the numbers of a law have their bounds, in boxes, in scales and alone.
func TestCheckLaw(t *testing.T) {
	for _, n := range extremes {
		for i, c := range []struct {
			l    api.Law
			want api.Errno
		}{
			{api.Law{First: n}, bounded(n, 0, 30)},
			{api.Law{First: 15, Step: n}, bounded(n, -5, 5)},
			{api.Law{Span: n}, bounded(n, 0, 20)},
			{api.Law{Press: n}, bounded(n, 0, 3)},
		} {
			if x := voice.Check(but(func(b *api.Box) { b.Law, b.Note = c.l, 1 })); x != c.want {
				t.Error("box", i, n, x)
			}
			if x := voice.CheckScale(api.Scale{Law: c.l}); x != c.want {
				t.Error("scale", i, n, x)
			}
			due, x := voice.Due(c.l, 0)
			if x != c.want || x == api.OK && due != c.l.First || x != api.OK && due != 0 {
				t.Error("due", i, n, due, x)
			}
		}
		if x := voice.Check(but(func(b *api.Box) { b.Step, b.Note = 0, n })); x != bounded(n, 0, 11) {
			t.Error("note", n, x)
		}
	}
	if x := first(voice.Check(api.Box{}), voice.CheckScale(api.Scale{})); x != api.OK {
		t.Error(x)
	}
}

// first returns the first of several errors that is one.
func first(errors ...api.Errno) api.Errno {
	for _, x := range errors {
		if x != api.OK {
			return x
		}
	}
	return api.OK
}

// P5.1, P5.4: what is due at the note of a box, or at a note of a scale, is from 0 to 30; Due tells it all the same.
func TestCheckDue(t *testing.T) {
	for start := range 31 {
		for step := -5; step <= 5; step++ {
			l := api.Law{First: start, Step: step}
			sure := true
			for note := range 12 {
				due := start + step*note
				if n, x := voice.Due(l, note); n != due || x != api.OK {
					t.Error(l, note, n, x)
				}
				if x := voice.Check(api.Box{Law: l, Note: note}); x != bounded(due, 0, 30) {
					t.Error(l, note, x)
				}
				if note >= 6 {
					continue
				}
				sure = sure && due >= 0 && due <= 30
				if x := voice.CheckScale(api.Scale{Law: l, Rows: slices.Repeat([][]api.Sound{make([]api.Sound, note+1)}, 2)}); (x == api.OK) != sure || !sure && x != api.ErrValue {
					t.Error(l, note, x)
				}
			}
		}
	}
	for _, note := range extremes {
		want := bounded(note, 0, 11)
		if n, x := voice.Due(lawB(), note); x != want || x != api.OK && n != 0 {
			t.Error(note, n, x)
		}
		if n, x := voice.Due(api.Law{Press: 4}, note); x != api.ErrValue || n != 0 {
			t.Error(note, n, x)
		}
	}
}

// P5.1, P5.4: both numbers of a range have their bounds, which come ahead of their order.
func TestCheckRanges(t *testing.T) {
	for _, least := range extremes {
		for _, most := range extremes {
			r := to(least, most)
			tone, slope := ordered(r, -30, 30), ordered(r, -3, 3)
			for i := range 2 {
				for name, c := range map[string]struct {
					change func(b *api.Box)
					want   api.Errno
				}{
					"tone of a lower one":  {func(b *api.Box) { b.Lows[i].Tone = r }, tone},
					"slope of a lower one": {func(b *api.Box) { b.Lows[i].Slope = r }, slope},
					"tone of an upper one": {func(b *api.Box) { b.Highs[i+1].Tone = r }, tone},
					"slope of an upper":    {func(b *api.Box) { b.Highs[i+1].Slope = r }, slope},
					"tip":                  {func(b *api.Box) { b.Tip = r }, ordered(r, 0, 100)},
					"root":                 {func(b *api.Box) { b.Root = r }, ordered(r, 0, 100)},
					"up":                   {func(b *api.Box) { b.Up = r }, ordered(r, 0, 12)},
					"down":                 {func(b *api.Box) { b.Down = r }, ordered(r, 0, 12)},
					"wear of the tip":      {func(b *api.Box) { b.TipWear = r }, ordered(r, 0, 12)},
					"wear of the root":     {func(b *api.Box) { b.RootWear = r }, ordered(r, 0, 12)},
					"least":                {func(b *api.Box) { b.Least = least }, bounded(least, 0, 100)},
					"meter":                {func(b *api.Box) { b.Meter = least }, bounded(least, 0, 6)},
				} {
					if x := voice.Check(but(c.change)); x != c.want {
						t.Error(name, i, r, x)
					}
				}
				if x := voice.CheckScale(butScale(func(s *api.Scale) { s.Rows[2][i].Tone = r })); x != tone {
					t.Error("tone of a row", i, r, x)
				}
				if x := voice.CheckScale(butScale(func(s *api.Scale) { s.Rows[i+1][1].Slope = r })); x != slope {
					t.Error("slope of a row", i, r, x)
				}
			}
		}
	}
}

// P5.1, P5.4: there are at most four lower and five upper tongues, four rows, and six tongues in a row.
func TestCheckMany(t *testing.T) {
	for n := range 12 {
		if x := voice.Check(but(func(b *api.Box) { b.Lows = make([]api.Sound, n) })); x != many(n, 4) {
			t.Error("lower ones", n, x)
		}
		if x := voice.Check(but(func(b *api.Box) { b.Highs = make([]api.Sound, n) })); x != many(n, 5) {
			t.Error("upper ones", n, x)
		}
		if x := voice.CheckScale(api.Scale{Rows: make([][]api.Sound, n)}); x != many(n, 4) {
			t.Error("rows", n, x)
		}
		if x := voice.CheckScale(api.Scale{Rows: [][]api.Sound{make([]api.Sound, n)}}); x != many(n, 6) {
			t.Error("tongues of a row", n, x)
		}
		want := many(n, 6)
		if want == api.OK && n != 2 {
			want = api.ErrText
		}
		if x := voice.CheckScale(api.Scale{Rows: [][]api.Sound{make([]api.Sound, 2), make([]api.Sound, n)}}); x != want {
			t.Error("tongues of the second row", n, x)
		}
	}
}

// change is a change of a box or a scale, and the error that is due to it.
type change[T any] struct {
	name string
	make func(*T)
	want api.Errno
}

// inOrder tells whether of each two changes the error of the first one is returned.
func inOrder[T any](t *testing.T, changes []change[T], start func() T, check func(T) api.Errno) {
	t.Helper()
	for i, one := range changes {
		for _, other := range changes[i:] {
			both := start()
			other.make(&both)
			one.make(&both)
			if x := check(both); x != one.want {
				t.Error(one.name, "and", other.name, x)
			}
		}
	}
}

// P5.1, R1: of two errors of a box the one that the chapter names first is returned.
func TestCheckOrder(t *testing.T) {
	order, large := to(1, 0), to(0, 101)
	wrong := func(change func(b *api.Box) *api.Range, r api.Range) func(b *api.Box) {
		return func(b *api.Box) { *change(b) = r }
	}
	low := func(i int) func(b *api.Box) *api.Sound { return func(b *api.Box) *api.Sound { return &b.Lows[i] } }
	high := func(i int) func(b *api.Box) *api.Sound { return func(b *api.Box) *api.Sound { return &b.Highs[i] } }
	changes := []change[api.Box]{
		{"law", func(b *api.Box) { b.Span = 21 }, api.ErrValue},
		{"note", func(b *api.Box) { b.Note = 12 }, api.ErrValue},
		{"due", func(b *api.Box) { b.First, b.Step = 1, -1 }, api.ErrValue},
	}
	for i, of := range []func(int) func(*api.Box) *api.Sound{low, high} {
		name := []string{"low", "high"}[i]
		changes = append(changes, change[api.Box]{"many " + name, func(b *api.Box) {
			b.Lows, b.Highs = append(b.Lows, make([]api.Sound, 5*(1-i))...), append(b.Highs, make([]api.Sound, 5*i)...)
		}, api.ErrMany})
		for number := range 2 {
			tone := func(b *api.Box) *api.Range { return &of(number)(b).Tone }
			slope := func(b *api.Box) *api.Range { return &of(number)(b).Slope }
			changes = append(changes,
				change[api.Box]{"value of a tone of " + name, wrong(tone, large), api.ErrValue},
				change[api.Box]{"order of a tone of " + name, wrong(tone, order), api.ErrOrder},
				change[api.Box]{"value of a slope of " + name, wrong(slope, large), api.ErrValue},
				change[api.Box]{"order of a slope of " + name, wrong(slope, order), api.ErrOrder},
			)
		}
	}
	for i, field := range []func(b *api.Box) *api.Range{
		func(b *api.Box) *api.Range { return &b.Tip },
		func(b *api.Box) *api.Range { return &b.Root },
		func(b *api.Box) *api.Range { return &b.Up },
		func(b *api.Box) *api.Range { return &b.Down },
		func(b *api.Box) *api.Range { return &b.TipWear },
		func(b *api.Box) *api.Range { return &b.RootWear },
	} {
		name := []string{"tip", "root", "up", "down", "tip wear", "root wear"}[i]
		changes = append(changes, change[api.Box]{"value of " + name, wrong(field, large), api.ErrValue}, change[api.Box]{"order of " + name, wrong(field, order), api.ErrOrder})
	}
	changes = append(changes,
		change[api.Box]{"least", func(b *api.Box) { b.Least = -1 }, api.ErrValue},
		change[api.Box]{"meter", func(b *api.Box) { b.Meter = 7 }, api.ErrValue},
	)
	inOrder(t, changes, boxB, voice.Check)
}

// P5.4, R1: of two errors of a scale the one that the chapter names first is returned, row by row.
func TestCheckScaleOrder(t *testing.T) {
	changes := []change[api.Scale]{
		{"law", func(s *api.Scale) { s.Press = -1 }, api.ErrValue},
		{"many rows", func(s *api.Scale) { s.Rows = append(s.Rows, nil, nil) }, api.ErrMany},
		{"long first row", func(s *api.Scale) { s.Rows[0] = append(s.Rows[0], make([]api.Sound, 5)...) }, api.ErrMany},
	}
	for row := range 3 {
		if row > 0 {
			changes = append(changes,
				change[api.Scale]{"many", func(s *api.Scale) { s.Rows[row] = append(s.Rows[row], make([]api.Sound, 5)...) }, api.ErrMany},
				change[api.Scale]{"one more", func(s *api.Scale) { s.Rows[row] = append(s.Rows[row], flat(0, 0)) }, api.ErrText},
			)
		}
		for note := range 2 {
			changes = append(changes,
				change[api.Scale]{"value of a tone", func(s *api.Scale) { s.Rows[row][note].Tone = to(0, 31) }, api.ErrValue},
				change[api.Scale]{"order of a tone", func(s *api.Scale) { s.Rows[row][note].Tone = to(1, 0) }, api.ErrOrder},
				change[api.Scale]{"value of a slope", func(s *api.Scale) { s.Rows[row][note].Slope = to(-4, 0) }, api.ErrValue},
				change[api.Scale]{"order of a slope", func(s *api.Scale) { s.Rows[row][note].Slope = to(1, 0) }, api.ErrOrder},
			)
		}
	}
	changes = append(changes, change[api.Scale]{"due", func(s *api.Scale) { s.First = 1 }, api.ErrValue})
	inOrder(t, changes, scaleS, voice.CheckScale)
}

// P5.1, P5.3: the error of a box comes ahead of that of a pair; there are no tongues but those of the box.
func TestCheckPair(t *testing.T) {
	for _, low := range extremes {
		for _, high := range extremes {
			for _, b := range []api.Box{boxB(), with(nil, boxB().Highs), with(boxB().Lows, nil), but(func(b *api.Box) { b.Tip = to(1, 0) })} {
				want := voice.Check(b)
				if want == api.OK && (low < 0 || low >= len(b.Lows) || high < 0 || high >= len(b.Highs)) {
					want = api.ErrUnknown
				}
				beats, x := voice.Beat(b, low, high)
				v, y := voice.Keeps(b, low, high)
				j, z := voice.Job(b, low, high)
				if x != want || y != want || z != want || want != api.OK && (len(beats) > 0 || v != 0 || !sameJob(j, api.Job{})) {
					t.Error(low, high, beats, v, j, x, y, z)
				}
				if n, x := voice.Strokes(b, low, high); want != api.OK && (x != want || n != 0) {
					t.Error(low, high, n, x)
				}
			}
		}
	}
}

// P5.1 to P5.5, R3: with the error of a box or a scale there is no other result.
func TestErrorsOfBoxes(t *testing.T) {
	for want, b := range map[api.Errno]api.Box{
		api.ErrValue: but(func(b *api.Box) { b.Meter = 7 }),
		api.ErrOrder: but(func(b *api.Box) { b.RootWear = to(1, 0) }),
		api.ErrMany:  with(nil, make([]api.Sound, 6)),
	} {
		table, x1 := voice.Pairs(b)
		match, x2 := voice.Match(b)
		short, x3 := voice.Short(b)
		most, x4 := voice.Most(b)
		filed, strokes, x5 := voice.Filed(b)
		text, x6 := voice.Write(b)
		if !slices.Equal([]api.Errno{x1, x2, x3, x4, x5, x6}, slices.Repeat([]api.Errno{want}, 6)) || len(table)+len(match)+len(short)+len(filed)+strokes+len(text) > 0 || most != to(0, 0) {
			t.Error(want, table, match, short, most, filed, strokes, text, x1, x2, x3, x4, x5, x6)
		}
	}
}

// P5.4: the rows of a register are looked at one by one, after the scale.
func TestCheckRegister(t *testing.T) {
	broken := butScale(func(s *api.Scale) { s.Rows[2] = nil })
	for _, c := range []struct {
		register []int
		want     api.Errno
	}{
		{nil, api.OK}, {[]int{}, api.OK}, {[]int{0}, api.OK}, {[]int{2}, api.OK}, {[]int{0, 2}, api.OK}, {[]int{0, 1, 2}, api.OK},
		{[]int{-1}, api.ErrUnknown}, {[]int{3}, api.ErrUnknown}, {[]int{math.MinInt}, api.ErrUnknown}, {[]int{math.MaxInt}, api.ErrUnknown},
		{[]int{0, 0}, api.ErrOrder}, {[]int{1, 0}, api.ErrOrder}, {[]int{0, 2, 1}, api.ErrOrder}, {[]int{0, 1, 2, 2}, api.ErrOrder},
		{[]int{0, 3}, api.ErrUnknown}, {[]int{0, 0, 3}, api.ErrOrder}, {[]int{3, 0, 0}, api.ErrUnknown}, {[]int{2, -1}, api.ErrUnknown}, {[]int{2, 1, -1}, api.ErrOrder},
	} {
		l, x := voice.Tremolo(scaleS(), c.register)
		span, y := voice.Span(scaleS(), c.register)
		note, row, z := voice.Bad(scaleS(), c.register)
		if x != c.want || y != c.want || c.want != api.OK && (z != c.want || len(l) > 0 || span != 0 || note != 0 || row != 0) {
			t.Error(c.register, l, span, note, row, x, y, z)
		}
		l, x = voice.Tremolo(broken, c.register)
		span, y = voice.Span(broken, c.register)
		note, row, z = voice.Bad(broken, c.register)
		if x != api.ErrText || y != api.ErrText || z != api.ErrText || len(l) > 0 || span != 0 || note != 0 || row != 0 {
			t.Error(c.register, l, span, note, row, x, y, z)
		}
	}
	if _, x := voice.Tremolo(api.Scale{}, []int{0}); x != api.ErrUnknown {
		t.Error(x)
	}
}
