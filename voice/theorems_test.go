package voice_test

import (
	"slices"
	"testing"

	"musette/api"
	"musette/reed"
	"musette/voice"
)

// inside tells whether a number is in a range.
func inside(n int, r api.Range) bool { return r.Min <= n && n <= r.Max }

// tells tells whether a verdict may be given if something is so in a truth, or is not.
func tells(verdict int, so bool) bool {
	if so {
		return verdict != api.Never
	}
	return verdict != api.Always
}

// truthsOfAll returns something that each of some tongues can be.
func (d *dice) truthsOfAll(tongues []api.Sound) []truth {
	var list []truth
	for _, s := range tongues {
		list = append(list, d.truthOf(s))
	}
	return list
}

// P5.6: whatever the tongues truly are, the beat at each pressure is within Beat, and verdicts are right.
func TestTrue(t *testing.T) {
	d := dice(11)
	for range 3000 {
		b := d.box()
		table := must[[][]int](t)(voice.Pairs(b))
		highs := d.truthsOfAll(b.Highs)
		for low, one := range d.truthsOfAll(b.Lows) {
			for high, other := range highs {
				for pressure, r := range must[[]api.Range](t)(voice.Beat(b, low, high)) {
					if !inside(other.at(pressure)-one.at(pressure), r) {
						t.Fatal(b, low, high, one, other, r)
					}
				}
				v := must[int](t)(voice.Keeps(b, low, high))
				if so := keep(b.Law, b.Note, one, other); !tells(v, so) || !tells(table[low][high], so) {
					t.Fatal(b, low, high, one, other, v)
				}
			}
		}
		s := d.scale(6, 4)
		register := d.set(len(s.Rows))
		for note, v := range must[[]int](t)(voice.Tremolo(s, register)) {
			open := d.truthsOfAll(column(s, register, note))
			so := true
			for i := 1; i < len(open); i++ {
				so = so && keep(s.Law, note, open[i-1], open[i])
			}
			if !tells(v, so) {
				t.Fatal(s, register, note, open, v)
			}
		}
	}
}

// P5.9: either each lower tongue has an upper one in Match, or Short names so many that cannot all have one; with any of them taken away they would.
func TestWitness(t *testing.T) {
	d := dice(12)
	witnesses := 0
	for range 4000 {
		b := d.box()
		match := must[[]int](t)(voice.Match(b))
		short, x := voice.Short(b)
		if (x == api.OK) != slices.Contains(match, none) {
			t.Fatal(b, match, short, x)
		}
		if x != api.OK {
			continue
		}
		witnesses++
		some := func(lows []int) []int {
			other := copyOf(b)
			other.Lows = nil
			for _, low := range lows {
				other.Lows = append(other.Lows, b.Lows[low])
			}
			return must[[]int](t)(voice.Match(other))
		}
		if !slices.Contains(some(short), none) {
			t.Fatal(b, short)
		}
		for i := range short {
			if slices.Contains(some(slices.Delete(slices.Clone(short), i, i+1)), none) {
				t.Fatal(b, short, i)
			}
		}
	}
	if witnesses < 500 {
		t.Error("too rare", witnesses)
	}
}

// P5.10: a pair always keeps the law just if its job always passes; if its job never passes, it never keeps it; strokes that make the job always fine make a pair that always keeps it.
func TestJobsPass(t *testing.T) {
	d := dice(13)
	met, filed := map[int]int{}, 0
	for range 2500 {
		b := d.box()
		for low := range b.Lows {
			for high := range b.Highs {
				j := must[api.Job](t)(voice.Job(b, low, high))
				v := must[int](t)(voice.Keeps(b, low, high))
				passes := must[int](t)(reed.Passes(j))
				if (v == api.Always) != (passes == api.Always) || passes == api.Never && v != api.Never {
					t.Fatal(b, low, high, v, passes)
				}
				met[passes]++
				strokes, x := reed.Shortest(j)
				if x != api.OK || must[int](t)(reed.Fine(j, strokes)) != api.Always {
					continue
				}
				after := must[api.Tongue](t)(reed.After(j, strokes))
				other := copyOf(b)
				other.Highs[high].Tone = raised(after.Pitch, dueAt(b.Law, b.Note))
				if voice.Check(other) != api.OK { // it may be higher than a tongue of a box can be
					continue
				}
				if v := must[int](t)(voice.Keeps(other, low, high)); v != api.Always {
					t.Fatal(b, low, high, strokes, after, v)
				}
				filed += min(1, len(strokes))
			}
		}
	}
	if min(met[api.Always], met[api.Never], met[api.Either]) < 500 || filed < 100 {
		t.Error("too rare", met, filed)
	}
}

// raised returns a range that is so much higher.
func raised(r api.Range, by int) api.Range { return to(r.Min+by, r.Max+by) }

// P5.12: with the Span that Span tells each note always keeps the law, with one less some note does not.
func TestSpanKeeps(t *testing.T) {
	d := dice(14)
	fewer := 0
	for range 3000 {
		s := d.scale(6, 3)
		register := d.set(len(s.Rows))
		span := must[int](t)(voice.Span(s, register))
		if span > api.MaxSpan {
			continue
		}
		if s.Span = span; slices.ContainsFunc(must[[]int](t)(voice.Tremolo(s, register)), func(v int) bool { return v != api.Always }) {
			t.Fatal(s, register, span)
		}
		if _, _, x := voice.Bad(s, register); x != api.ErrNone {
			t.Fatal(s, register, span, x)
		}
		if span == 0 {
			continue
		}
		s.Span = span - 1
		note, _, x := voice.Bad(s, register)
		l := must[[]int](t)(voice.Tremolo(s, register))
		if x != api.OK || note != slices.IndexFunc(l, func(v int) bool { return v != api.Always }) {
			t.Fatal(s, register, span, note, l, x)
		}
		fewer++
	}
	if fewer < 500 {
		t.Error("too rare", fewer)
	}
}

// surer returns a tongue of which more is known.
func (d *dice) surer(s api.Sound) api.Sound {
	if d.roll(0, 2) == 0 {
		return s
	}
	return sound(d.within(s.Tone), d.within(s.Slope))
}

// easier returns a law that is easier to keep.
func (d *dice) easier(l api.Law) api.Law {
	l.Span = d.roll(l.Span, min(api.MaxSpan, l.Span+2))
	l.Press = d.roll(0, l.Press)
	return l
}

// P5.13: with narrower ranges, a greater span or less pressure no verdict Always is lost, and Match has no fewer pairs.
func TestBetter(t *testing.T) {
	d := dice(15)
	better, more := 0, 0
	pairs := func(b api.Box) int {
		match := must[[]int](t)(voice.Match(b))
		return len(slices.DeleteFunc(match, func(high int) bool { return high == none }))
	}
	stays := func(before, after int) bool {
		if before != api.Always && after == api.Always {
			better++
		}
		return before != api.Always || after == api.Always
	}
	for range 3000 {
		b := d.box()
		other := copyOf(b)
		other.Law = d.easier(b.Law)
		for i, s := range b.Lows {
			other.Lows[i] = d.surer(s)
		}
		for i, s := range b.Highs {
			other.Highs[i] = d.surer(s)
		}
		table := must[[][]int](t)(voice.Pairs(other))
		for low, verdicts := range must[[][]int](t)(voice.Pairs(b)) {
			for high, v := range verdicts {
				if !stays(v, table[low][high]) {
					t.Fatal(b, other, low, high)
				}
			}
		}
		if pairs(other) < pairs(b) {
			t.Fatal(b, other)
		}
		if pairs(other) > pairs(b) {
			more++
		}
		s := d.scale(6, 3)
		register := d.set(len(s.Rows))
		surer := copyOfScale(s)
		surer.Law = d.easier(s.Law)
		for _, row := range surer.Rows {
			for note := range row {
				row[note] = d.surer(row[note])
			}
		}
		l := must[[]int](t)(voice.Tremolo(surer, register))
		for note, v := range must[[]int](t)(voice.Tremolo(s, register)) {
			if !stays(v, l[note]) {
				t.Fatal(s, surer, register, note)
			}
		}
	}
	if min(better, more) < 300 {
		t.Error("too rare", better, more)
	}
}

// changed returns a box with other tongues, and whether it is valid.
func changed(b api.Box, low, high func(s api.Sound) api.Sound) (api.Box, bool) {
	b = copyOf(b)
	for i, s := range b.Lows {
		b.Lows[i] = low(s)
	}
	for i, s := range b.Highs {
		b.Highs[i] = high(s)
	}
	return b, voice.Check(b) == api.OK
}

// sameBox tells whether pairings and verdicts of two boxes are the same.
func sameBox(t *testing.T, b, other api.Box) bool {
	t.Helper()
	short, x := voice.Short(b)
	second, y := voice.Short(other)
	return slices.EqualFunc(must[[][]int](t)(voice.Pairs(b)), must[[][]int](t)(voice.Pairs(other)), slices.Equal[[]int]) &&
		slices.Equal(must[[]int](t)(voice.Match(b)), must[[]int](t)(voice.Match(other))) &&
		must[api.Range](t)(voice.Most(b)) == must[api.Range](t)(voice.Most(other)) &&
		slices.Equal(short, second) && x == y
}

// P5.14: if all tongues are raised by as much, beats and pairings stay, and jobs need as many strokes; with more slope for all, too.
func TestRaised(t *testing.T) {
	d := dice(16)
	met := 0
	for range 3000 {
		b := d.box()
		by, slope := d.roll(-15, 15), d.roll(-1, 1)
		up := func(s api.Sound) api.Sound { return sound(raised(s.Tone, by), raised(s.Slope, slope)) }
		other, ok := changed(b, up, up)
		if !ok {
			continue
		}
		met++
		if !sameBox(t, b, other) {
			t.Fatal(b, other)
		}
		one, n, x := voice.Filed(b)
		two, m, y := voice.Filed(other)
		if !slices.Equal(one, two) || n != m || x != y {
			t.Fatal(b, other, one, two, n, m, x, y)
		}
		for low := range b.Lows {
			for high := range b.Highs {
				if !slices.Equal(must[[]api.Range](t)(voice.Beat(b, low, high)), must[[]api.Range](t)(voice.Beat(other, low, high))) {
					t.Fatal(b, other, low, high)
				}
			}
		}
	}
	if met < 500 {
		t.Error("too rare", met)
	}
}

// P5.14: if the tongues are turned about what is due, so are the beats, and all verdicts stay.
func TestTurned(t *testing.T) {
	d := dice(17)
	met := 0
	for range 3000 {
		b := d.box()
		due := dueAt(b.Law, b.Note)
		turn := func(r api.Range, about int) api.Range { return to(2*about-r.Max, 2*about-r.Min) }
		turned := func(about int) func(api.Sound) api.Sound {
			return func(s api.Sound) api.Sound { return sound(turn(s.Tone, about), turn(s.Slope, 0)) }
		}
		other, ok := changed(b, turned(0), turned(due))
		if !ok {
			continue
		}
		met++
		if !sameBox(t, b, other) {
			t.Fatal(b, other)
		}
		for low := range b.Lows {
			for high := range b.Highs {
				beats := must[[]api.Range](t)(voice.Beat(other, low, high))
				for pressure, r := range must[[]api.Range](t)(voice.Beat(b, low, high)) {
					if beats[pressure] != turn(r, due) {
						t.Fatal(b, other, low, high, beats)
					}
				}
			}
		}
	}
	if met < 500 {
		t.Error("too rare", met)
	}
}

// P5.15: a note that keeps the law with a register keeps it with each part of it whose rows stand next to each other; with one row all do.
func TestRows(t *testing.T) {
	d := dice(18)
	met := map[int]int{}
	for range 4000 {
		s := d.scale(6, 3)
		register := d.set(len(s.Rows))
		whole := must[[]int](t)(voice.Tremolo(s, register))
		for from := range register {
			for end := from + 1; end <= len(register); end++ {
				for note, v := range must[[]int](t)(voice.Tremolo(s, register[from:end])) {
					// What is so in all truths, or in some, is so of each part of it.
					if whole[note] == api.Always && v != api.Always || whole[note] != api.Never && v == api.Never || end == from+1 && v != api.Always {
						t.Fatal(s, register, from, end, note, whole, v)
					}
					if end > from+1 {
						met[v]++
					}
				}
			}
		}
	}
	if min(met[api.Always], met[api.Never], met[api.Either]) < 500 {
		t.Error("too rare", met)
	}
}

// P5.2, P5.15: if lower tongues change places, so do their verdicts, and as many pairs are found.
func TestRenamed(t *testing.T) {
	d := dice(19)
	for range 2000 {
		b := d.box()
		other := copyOf(b)
		slices.Reverse(other.Lows)
		slices.Reverse(other.Highs)
		table := must[[][]int](t)(voice.Pairs(other))
		for low, verdicts := range must[[][]int](t)(voice.Pairs(b)) {
			for high, v := range verdicts {
				if table[len(b.Lows)-1-low][len(b.Highs)-1-high] != v {
					t.Fatal(b, low, high)
				}
			}
		}
		short, x := voice.Short(b)
		second, y := voice.Short(other)
		_, n, z := voice.Filed(b)
		_, m, w := voice.Filed(other)
		if must[api.Range](t)(voice.Most(b)) != must[api.Range](t)(voice.Most(other)) || len(short) != len(second) || x != y || n != m || z != w {
			t.Fatal(b, short, second, n, m)
		}
	}
}
