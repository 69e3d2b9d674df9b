package meter_test

import (
	"math"
	"slices"
	"testing"

	"musette/api"
	"musette/meter"
)

// small is how great the ears are that are searched through.
var small = size{tongues: 3, width: 6, readings: 4}

// P2.1, P2.8, P2.9: numbers of truths, tones and values are just those of all truths.
func TestTonesOfAllTruths(t *testing.T) {
	d := dice(21)
	met := 0
	for range 3000 {
		e := d.ear(small)
		all := truths(e)
		if n, x := meter.Truths(e); n != len(all) || x != api.OK {
			t.Fatal(e, n, x, len(all))
		}
		tones, x := meter.Tones(e)
		if len(all) == 0 {
			if x != api.ErrAgainst || len(tones) > 0 {
				t.Fatal(e, tones, x)
			}
			continue
		}
		met++
		if x != api.OK || len(tones) != len(e.Tones) {
			t.Fatal(e, tones, x)
		}
		for tongue := range e.Tones {
			own := column(all, func(tones []int) int { return tones[tongue] })
			slices.Sort(own)
			values, x := meter.Values(e, tongue)
			if x != api.OK || !slices.Equal(values, slices.Compact(own)) || tones[tongue] != to(values[0], values[len(values)-1]) {
				t.Fatal(e, tongue, values, x, tones)
			}
		}
	}
	if met < 2000 {
		t.Error("too few ears have a truth", met)
	}
}

// P2.2, P2.8, P2.9: verdicts and beats are just those of all truths.
func TestSidesOfAllTruths(t *testing.T) {
	d := dice(22)
	var within, sides [4]int
	for range 3000 {
		e := d.ear(small)
		all := truths(e)
		if len(all) == 0 {
			continue
		}
		for a, r := range e.Tones {
			least := d.roll(r.Min-2, r.Max)
			want := to(least, d.roll(least, r.Max+2))
			v, x := meter.Within(e, a, want)
			if x != api.OK || v != verdictOf(all, func(tones []int) bool { return want.Min <= tones[a] && tones[a] <= want.Max }) {
				t.Fatal(e, a, want, v, x)
			}
			within[v]++
			for b := range e.Tones {
				if a == b {
					continue
				}
				v, x := meter.Higher(e, a, b)
				if x != api.OK || v != verdictOf(all, func(tones []int) bool { return tones[a] > tones[b] }) {
					t.Fatal(e, a, b, v, x)
				}
				sides[v]++
				seconds := d.roll(1, 20)
				beats, x := meter.Beats(e, a, b, seconds)
				if x != api.OK || beats != ends(column(all, func(tones []int) int { return apart(tones[a], tones[b]) * seconds / 100 })) {
					t.Fatal(e, a, b, seconds, beats, x)
				}
			}
		}
	}
	if min(within[1], within[2], within[3], sides[1], sides[2], sides[3]) < 100 {
		t.Error("a verdict is too rare", within, sides)
	}
}

// P2.1: the bounds of a ReadCount lie just outside of what it is true of, those of a ReadBeat just inside.
func TestBoundsOfReadings(t *testing.T) {
	wide := to(44000, 44020)
	for i, c := range []struct {
		e      api.Ear
		tongue int
		want   api.Range
	}{
		{heard(plain(wide), count(0, 10, 4401, 4401)), 0, to(44001, 44019)},
		{heard(plain(wide), count(0, 20, 8802, 8802)), 0, to(44006, 44014)},
		{heard(plain(wide), count(0, 20, 8801, 8802)), 0, to(44001, 44014)},
		{heard(plain(wide), count(0, 20, 8803, 8803)), 0, to(44011, 44019)},
		{api.Ear{Slack: 1, Tones: []api.Range{wide}, Readings: []api.Reading{count(0, 20, 8802, 8802)}}, 0, to(44001, 44019)},
		{api.Ear{Slack: 2, Tones: []api.Range{wide}, Readings: []api.Reading{count(0, 20, 8800, 8800)}}, 0, to(44000, 44014)},
		{api.Ear{Slack: 3, Tones: []api.Range{wide}, Readings: []api.Reading{count(0, 20, 8806, 8806)}}, 0, to(44011, 44020)},
		{heard(plain(to(1, 21)), count(0, 20, 0, 0)), 0, to(1, 4)},
		{heard(plain(to(1, 21)), count(0, 5, 1, 1)), 0, to(1, 21)},
		{heard(plain(to(1, 21)), count(0, 20, 1, 1)), 0, to(1, 9)},
		{heard(plain(to(500, 500), to(490, 510)), beat(1, 0, 20, 1, 2), higher(1, 0)), 1, to(505, 510)},
		{heard(plain(to(500, 500), to(490, 510)), beat(1, 0, 20, 1, 2), higher(0, 1)), 1, to(490, 495)},
		{heard(plain(to(500, 500), to(490, 510)), beat(0, 1, 20, 0, 1)), 1, to(495, 505)},
		{heard(plain(to(500, 500), to(490, 510)), beat(0, 1, 20, 0, 0)), 1, to(500, 500)},
		{heard(plain(to(500, 500), to(490, 510)), higher(0, 1)), 1, to(490, 499)},
		{heard(plain(to(500, 500), to(490, 510)), higher(1, 0)), 1, to(501, 510)},
	} {
		tones, x := meter.Tones(c.e)
		if x != api.OK || tones[c.tongue] != c.want {
			t.Error(i, tones, x)
		}
	}
	if tones, x := meter.Tones(heard(plain(wide), count(0, 20, 8805, 9000))); len(tones) > 0 || x != api.ErrAgainst {
		t.Error(tones, x)
	}
}

// P2.1: the largest ear is gone through.
func TestLargestEar(t *testing.T) {
	e := plain(to(44000, 44020), to(44000, 44020), to(44000, 44020))
	if n, x := meter.Truths(e); n != 9261 || x != api.OK {
		t.Error(n, x)
	}
	if n, x := meter.Truths(heard(e, higher(0, 1), higher(1, 2))); n != 1330 || x != api.OK {
		t.Error(n, x)
	}
}

// P2.2: a range that is asked for may have any numbers.
func TestWithinFar(t *testing.T) {
	for i, c := range []struct {
		want api.Range
		v    int
	}{
		{to(math.MinInt, math.MaxInt), api.Always},
		{to(math.MinInt, 44005), api.Always},
		{to(math.MinInt, 44004), api.Either},
		{to(44000, math.MaxInt), api.Always},
		{to(44001, math.MaxInt), api.Either},
		{to(math.MaxInt, math.MaxInt), api.Never},
		{to(math.MinInt, math.MinInt), api.Never},
		{to(44006, math.MaxInt), api.Never},
		{to(44003, 44003), api.Either},
	} {
		if v, x := meter.Within(earE(), 0, c.want); v != c.v || x != api.OK {
			t.Error(i, v, x)
		}
		if n, x := meter.Needs(earE(), 0, c.want, []int{20}); (n == 0 && x == api.OK) != (c.v != api.Either) {
			t.Error(i, n, x)
		}
	}
}

// P2.2: beats are rounded down.
func TestBeatsAreWhole(t *testing.T) {
	e := plain(to(500, 500), to(507, 513))
	for i, c := range []struct {
		seconds int
		want    api.Range
	}{{1, to(0, 0)}, {7, to(0, 0)}, {8, to(0, 1)}, {14, to(0, 1)}, {15, to(1, 1)}, {16, to(1, 2)}, {20, to(1, 2)}} {
		one, x := meter.Beats(e, 0, 1, c.seconds)
		other, y := meter.Beats(e, 1, 0, c.seconds)
		if one != c.want || other != c.want || x != api.OK || y != api.OK {
			t.Error(i, one, other, x, y)
		}
	}
	far := plain(to(1, 1), to(100000, 100000))
	if r, x := meter.Beats(far, 0, 1, 20); r != to(19999, 19999) || x != api.OK {
		t.Error(r, x)
	}
}
