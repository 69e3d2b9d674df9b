package meter_test

import (
	"slices"
	"testing"

	"musette/api"
	"musette/meter"
)

// trueEar returns an ear, and tones of which all of its readings are true.
func (d *dice) trueEar(s size) (api.Ear, []int) {
	for {
		e := d.ear(s)
		if all := truths(e); len(all) > 0 {
			return e, all[d.roll(0, len(all)-1)]
		}
	}
}

// must returns a result that comes without an error.
func must[T any](t *testing.T) func(result T, x api.Errno) T {
	return func(result T, x api.Errno) T {
		t.Helper()
		if x != api.OK {
			t.Fatal(result, x)
		}
		return result
	}
}

// P2.7: whatever the tones truly are, what is said of them is right if the readings are true of them.
func TestTrue(t *testing.T) {
	d := dice(32)
	number, list, ranges := must[int](t), must[[]int](t), must[[]api.Range](t)
	for range 3000 {
		e, tones := d.trueEar(size{tongues: 3, width: 8, readings: 5})
		right := func(verdict int, so bool) bool {
			return verdict == api.Either || (verdict == api.Always) == so
		}
		if len(list(meter.False(e))) > 0 || slices.ContainsFunc(list(meter.Doubted(e)), func(v int) bool { return v != api.Never }) {
			t.Fatal(e, tones, "something is doubted")
		}
		for a, tone := range tones {
			r := ranges(meter.Tones(e))[a]
			if tone < r.Min || tone > r.Max || !slices.Contains(list(meter.Values(e, a)), tone) {
				t.Fatal(e, tones, r)
			}
			want := to(tone-d.roll(-1, 2), tone+d.roll(1, 3))
			if !right(number(meter.Within(e, a, want)), want.Min <= tone && tone <= want.Max) {
				t.Fatal(e, tones, a, want)
			}
			for b, other := range tones {
				if a == b {
					continue
				}
				seconds := d.roll(1, 20)
				beats, n := must[api.Range](t)(meter.Beats(e, a, b, seconds)), apart(tone, other)*seconds/100
				if !right(number(meter.Higher(e, a, b)), tone > other) || n < beats.Min || n > beats.Max {
					t.Fatal(e, tones, a, b, seconds, beats)
				}
			}
		}
	}
}

// P2.10: if one tongue is always higher, the other one never is; if neither ever is, they are equal.
func TestSidesOfPairs(t *testing.T) {
	d := dice(33)
	number := must[int](t)
	always, same := 0, 0
	for range 4000 {
		e, _ := d.trueEar(size{tongues: 3, width: d.roll(0, 4), readings: 4})
		if len(e.Tones) < 2 {
			continue
		}
		one, other := number(meter.Higher(e, 0, 1)), number(meter.Higher(e, 1, 0))
		if one == api.Always {
			always++
			if other != api.Never {
				t.Fatal(e, one, other)
			}
		}
		if one == api.Never && other == api.Never {
			same++
			values, others := must[[]int](t)(meter.Values(e, 0)), must[[]int](t)(meter.Values(e, 1))
			if !slices.Equal(values, others) || must[api.Range](t)(meter.Beats(e, 0, 1, 20)) != to(0, 0) {
				t.Fatal(e, values, others)
			}
		}
	}
	if always < 100 || same < 20 {
		t.Error("too rare", always, same)
	}
}

// subset tells whether all numbers of a list are in another one.
func subset(list, of []int) bool {
	return !slices.ContainsFunc(list, func(n int) bool { return !slices.Contains(of, n) })
}

// P2.12: one reading more leaves no truth that was not there, and no more than the worst outcome.
func TestMoreReadings(t *testing.T) {
	d := dice(34)
	number, list := must[int](t), must[[]int](t)
	fewer := 0
	for range 4000 {
		e, tones := d.trueEar(size{tongues: 3, width: 6, readings: 3})
		r := d.reading(e, tones)
		if r.Kind == api.ReadCount {
			r.Shown.Max = r.Shown.Min
		}
		next, x := meter.With(e, r)
		if x == api.ErrAgainst {
			continue
		}
		before, after, worst := number(meter.Truths(e)), number(meter.Truths(next)), number(meter.Worst(e, r))
		if after > before || r.Kind != api.ReadBeat && after > worst || worst > before {
			t.Fatal(e, r, before, after, worst)
		}
		for tongue := range e.Tones {
			if !subset(list(meter.Values(next, tongue)), list(meter.Values(e, tongue))) {
				t.Fatal(e, r, tongue)
			}
		}
		if after < before {
			fewer++
		}
	}
	if fewer < 500 {
		t.Error("readings seldom tell anything", fewer)
	}
}

// P2.12: if the meter errs by less, no tone is added.
func TestLessSlack(t *testing.T) {
	d := dice(35)
	list := must[[]int](t)
	fewer := 0
	for range 4000 {
		e, _ := d.trueEar(size{tongues: 2, width: 20, readings: 3})
		better := e
		better.Slack = d.roll(0, e.Slack)
		if n := must[int](t)(meter.Truths(better)); n == 0 || e.Slack == 0 {
			continue
		}
		for tongue := range e.Tones {
			before, after := list(meter.Values(e, tongue)), list(meter.Values(better, tongue))
			if !subset(after, before) {
				t.Fatal(e, better, before, after)
			}
			if len(after) < len(before) {
				fewer++
			}
		}
	}
	if fewer < 50 {
		t.Error("a meter that errs by less seldom tells more", fewer)
	}
}

// moreGates returns valid gates, and valid gates among which they are.
func (d *dice) moreGates() (few, more []int) {
	more = d.gates(3)
	few = slices.Clone(more)
	for len(few) > 1 && d.roll(0, 2) > 0 {
		at := d.roll(0, len(few)-1)
		few = slices.Delete(few, at, at+1)
	}
	return few, more
}

// P2.13: no reading by gates is better than Best; with more gates none is worse.
func TestBestOfMoreGates(t *testing.T) {
	d := dice(36)
	better := 0
	for range 2000 {
		e, _ := d.trueEar(size{tongues: 3, width: 5, readings: 3})
		few, more := d.moreGates()
		r, n, x := meter.Best(e, few)
		_, m, y := meter.Best(e, more)
		if x != api.OK || y != api.OK || m > n || must[int](t)(meter.Worst(e, r)) != n {
			t.Fatal(e, few, more, r, n, m, x, y)
		}
		for _, other := range byGates(len(e.Tones), few) {
			if must[int](t)(meter.Worst(e, other)) < n {
				t.Fatal(e, few, r, n, other)
			}
		}
		if m < n {
			better++
		}
	}
	if better < 20 {
		t.Error("more gates are seldom better", better)
	}
}

// widest returns how wide a tongue may be known after a count over so many seconds.
func widest(t *testing.T, e api.Ear, tongue, seconds int) int {
	t.Helper()
	widest := 0
	r := e.Tones[tongue]
	for shown := max(0, r.Min*seconds/100-6); shown <= r.Max*seconds/100+6; shown++ {
		next, x := meter.With(e, count(tongue, seconds, shown, shown))
		if x == api.OK {
			known := must[[]api.Range](t)(meter.Tones(next))[tongue]
			widest = max(widest, known.Max-known.Min)
		}
	}
	return widest
}

// P2.14: after a count over Gate seconds the tone is known within the width, but not after any count over fewer seconds.
func TestAfterGate(t *testing.T) {
	d := dice(37)
	found := 0
	for range 300 {
		e, _ := d.trueEar(size{tongues: 2, width: 20, readings: 1})
		tongue, width := d.roll(0, len(e.Tones)-1), d.roll(0, 12)
		gate, x := meter.Gate(e, tongue, width)
		if x == api.ErrNone {
			gate = 21
		} else if n := widest(t, e, tongue, gate); n > width {
			t.Fatal(e, tongue, width, gate, n)
		}
		for seconds := 1; seconds < gate; seconds++ {
			if n := widest(t, e, tongue, seconds); n <= width {
				t.Fatal(e, tongue, width, gate, seconds, n)
			}
		}
		if 1 < gate && gate < 21 {
			found++
		}
	}
	if found < 20 {
		t.Error("there seldom is such a gate", found)
	}
}

// P2.15: if no reading is needed, it is known; if one is, some reading decides whatever it shows; with more gates no more are needed.
func TestNeeded(t *testing.T) {
	d := dice(38)
	var met [4]int
	fewer := 0
	needs := func(e api.Ear, tongue int, want api.Range, gates []int) int {
		n, x := meter.Needs(e, tongue, want, gates)
		if x == api.ErrNone {
			return 3
		}
		return must[int](t)(n, x)
	}
	for range 4000 {
		e, tongue := d.between()
		if d.roll(0, 1) == 0 { // beats tell what is asked for, if they are heard for long enough
			e, tongue = plain(to(500, 500), to(500+d.roll(1, 6), 500+d.roll(7, 20))), 1
		}
		least := e.Tones[tongue].Min + d.roll(0, 6)
		want := to(least, least+d.roll(0, 15))
		few, more := d.moreGates()
		n, m := needs(e, tongue, want, few), needs(e, tongue, want, more)
		v := must[int](t)(meter.Within(e, tongue, want))
		so := func(tones []int) bool { return want.Min <= tones[tongue] && tones[tongue] <= want.Max }
		if (n == 0) != (v != api.Either) || m > n || (n <= 1) != enough(e.Slack, byGates(len(e.Tones), few), truths(e), 1, so) {
			t.Fatal(e, tongue, want, few, more, n, m, v)
		}
		met[n]++
		if m < n {
			fewer++
		}
	}
	if min(met[0], met[1], met[3]) < 20 || met[2] == 0 || fewer < 20 {
		t.Error("too rare", met, fewer)
	}
}

// shifted returns an ear whose tongues are so much higher.
func shifted(e api.Ear, by int) api.Ear {
	e.Tones = slices.Clone(e.Tones)
	for i, r := range e.Tones {
		e.Tones[i] = to(r.Min+by, r.Max+by)
	}
	return e
}

// P2.16: if there are beats and sides alone, and all tongues are so much higher, so are all tones, and the rest stays.
func TestShifted(t *testing.T) {
	d := dice(39)
	number, list := must[int](t), must[[]int](t)
	for range 2000 {
		e := d.ear(size{tongues: 3, width: 5, readings: 5})
		e.Readings = slices.DeleteFunc(e.Readings, func(r api.Reading) bool { return r.Kind == api.ReadCount })
		by := d.roll(0, 20)
		s := shifted(e, by)
		if n := number(meter.Truths(e)); n != number(meter.Truths(s)) || !slices.Equal(list(meter.False(e)), list(meter.False(s))) || !slices.Equal(list(meter.Doubted(e)), list(meter.Doubted(s))) {
			t.Fatal(e, s)
		} else if n == 0 {
			continue
		}
		for a, r := range e.Tones {
			higher := list(meter.Values(e, a))
			for i := range higher {
				higher[i] += by
			}
			want := to(r.Min+1, r.Max+1)
			if !slices.Equal(higher, list(meter.Values(s, a))) || number(meter.Within(e, a, want)) != number(meter.Within(s, a, to(want.Min+by, want.Max+by))) {
				t.Fatal(e, s, a, want)
			}
			for b := range e.Tones {
				if a == b {
					continue
				}
				if number(meter.Higher(e, a, b)) != number(meter.Higher(s, a, b)) || must[api.Range](t)(meter.Beats(e, a, b, 20)) != must[api.Range](t)(meter.Beats(s, a, b, 20)) {
					t.Fatal(e, s, a, b)
				}
				if r := beat(a, b, 20, 0, 0); number(meter.Worst(e, r)) != number(meter.Worst(s, r)) {
					t.Fatal(e, s, a, b)
				}
			}
		}
	}
}

// renumbered returns an ear whose tongues have other numbers: the one with the number i gets the number to[i].
func renumbered(e api.Ear, to []int) api.Ear {
	other := api.Ear{Slack: e.Slack, Tones: make([]api.Range, len(e.Tones))}
	for i, r := range e.Tones {
		other.Tones[to[i]] = r
	}
	for _, r := range e.Readings {
		r.A = to[r.A]
		if r.Kind != api.ReadCount {
			r.B = to[r.B]
		}
		other.Readings = append(other.Readings, r)
	}
	return other
}

// P2.16: tongues may have other numbers.
func TestRenumbered(t *testing.T) {
	d := dice(40)
	number, list := must[int](t), must[[]int](t)
	for range 2000 {
		e := d.ear(small)
		turn := d.roll(0, len(e.Tones)-1)
		places := make([]int, len(e.Tones))
		for i := range places {
			places[i] = (turn + len(places) - i) % len(places)
		}
		o := renumbered(e, places)
		if n := number(meter.Truths(e)); n != number(meter.Truths(o)) || !slices.Equal(list(meter.False(e)), list(meter.False(o))) || !slices.Equal(list(meter.Doubted(e)), list(meter.Doubted(o))) {
			t.Fatal(e, o)
		} else if n == 0 {
			continue
		}
		gates := d.gates(2)
		for a, r := range e.Tones {
			want := to(r.Min, r.Max-1+d.roll(1, 2))
			if !slices.Equal(list(meter.Values(e, a)), list(meter.Values(o, places[a]))) || number(meter.Within(e, a, want)) != number(meter.Within(o, places[a], want)) {
				t.Fatal(e, o, a, want)
			}
			n, x := meter.Gate(e, a, 5)
			if m, y := meter.Gate(o, places[a], 5); n != m || x != y {
				t.Fatal(e, o, a, n, x, m, y)
			}
			for b := range e.Tones {
				if a != b && (number(meter.Higher(e, a, b)) != number(meter.Higher(o, places[a], places[b])) || must[api.Range](t)(meter.Beats(e, a, b, gates[0])) != must[api.Range](t)(meter.Beats(o, places[a], places[b], gates[0]))) {
					t.Fatal(e, o, a, b)
				}
			}
		}
	}
}
