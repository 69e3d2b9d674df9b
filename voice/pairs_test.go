package voice_test

import (
	"slices"
	"testing"

	"musette/api"
	"musette/voice"
)

// beatsOf goes through all truths of two tongues, and returns the least and the greatest beat at each pressure.
func beatsOf(l api.Law, low, high api.Sound) []api.Range {
	var beats []api.Range
	for pressure := 0; pressure <= l.Press; pressure++ {
		r := to(999, -999)
		for _, one := range truthsOf(low) {
			for _, other := range truthsOf(high) {
				beat := other.at(pressure) - one.at(pressure)
				r = to(min(r.Min, beat), max(r.Max, beat))
			}
		}
		beats = append(beats, r)
	}
	return beats
}

// P5.1, P5.7: all truths of small boxes are gone through: Beat, Keeps and Pairs are just what they say.
func TestPairsAll(t *testing.T) {
	d := dice(1)
	met := map[int]int{}
	for range 4000 {
		b := d.box()
		want := tableOf(b)
		table := must[[][]int](t)(voice.Pairs(b))
		if !slices.EqualFunc(table, want, slices.Equal[[]int]) {
			t.Fatal(b, table, want)
		}
		for low, verdicts := range want {
			for high, verdict := range verdicts {
				met[verdict]++
				if v := must[int](t)(voice.Keeps(b, low, high)); v != verdict {
					t.Fatal(b, low, high, v)
				}
				beats := must[[]api.Range](t)(voice.Beat(b, low, high))
				if !slices.Equal(beats, beatsOf(b.Law, b.Lows[low], b.Highs[high])) {
					t.Fatal(b, low, high, beats)
				}
			}
		}
	}
	if min(met[api.Always], met[api.Never], met[api.Either]) < 1000 {
		t.Error("too rare", met)
	}
}

// P5.1, P5.7: tongues of which as little is known as can be.
func TestPairsWide(t *testing.T) {
	wide := sound(to(-30, 30), to(-3, 3))
	for _, span := range []int{0, 20} {
		b := api.Box{Law: api.Law{First: 30, Span: span, Press: 3}, Lows: []api.Sound{wide}, Highs: []api.Sound{wide}}
		beats := must[[]api.Range](t)(voice.Beat(b, 0, 0))
		if v := must[int](t)(voice.Keeps(b, 0, 0)); v != api.Either || !slices.Equal(beats, []api.Range{to(-60, 60), to(-66, 66), to(-72, 72), to(-78, 78)}) {
			t.Error(span, v, beats)
		}
	}
}

// P5.1: a beat may be as far from what is due as Span, above it and below it, at each pressure up to Press and no further.
func TestKeepsEnds(t *testing.T) {
	for press := range 4 {
		for tone := -30; tone <= 30; tone++ {
			for slope := -3; slope <= 3; slope++ {
				b := api.Box{Law: api.Law{First: 10, Span: 6, Press: press}, Lows: []api.Sound{flat(0, 0)}, Highs: []api.Sound{sound(to(tone, tone), to(slope, slope))}}
				want := api.Always
				for pressure := range press + 1 {
					if beat := tone + slope*pressure; beat < 4 || beat > 16 {
						want = api.Never
					}
				}
				if v := must[int](t)(voice.Keeps(b, 0, 0)); v != want {
					t.Error(b, v)
				}
				b.Lows, b.Highs = []api.Sound{sound(to(-tone, -tone), to(-slope, -slope))}, b.Lows
				if v := must[int](t)(voice.Keeps(b, 0, 0)); v != want {
					t.Error(b, v)
				}
			}
		}
	}
}

// P5.1: two tongues may keep the law at each pressure in some truth, but not in the same one.
func TestKeepsSameTruth(t *testing.T) {
	for i, c := range []struct {
		low, high api.Sound
		span      int
		want      int
	}{
		{flat(0, 0), sound(to(5, 8), to(2, 2)), 0, api.Never},
		{flat(0, 0), sound(to(5, 10), to(0, 2)), 0, api.Either},
		{flat(0, 0), sound(to(10, 10), to(-3, 3)), 0, api.Either},
		{sound(to(0, 0), to(1, 2)), sound(to(10, 12), to(-1, 0)), 0, api.Never},
		{sound(to(0, 0), to(1, 2)), sound(to(10, 12), to(-1, 0)), 1, api.Either},
		{sound(to(0, 0), to(1, 2)), sound(to(10, 10), to(1, 2)), 1, api.Either},
		{sound(to(0, 0), to(1, 2)), sound(to(10, 10), to(1, 2)), 2, api.Always},
	} {
		b := api.Box{Law: api.Law{First: 10, Span: c.span, Press: 2}, Lows: []api.Sound{c.low}, Highs: []api.Sound{c.high}}
		if v := must[int](t)(voice.Keeps(b, 0, 0)); v != c.want || c.want != verdictOf(countTruths(b.Law, 0, []api.Sound{c.low, c.high})) {
			t.Error(i, v)
		}
	}
}

// P5.2, P5.8: all pairings are gone through: Match is the first one with the most pairs, and Most is how many these are.
func TestMatchAll(t *testing.T) {
	d := dice(2)
	alone, more, later := 0, 0, 0
	for range 4000 {
		b := d.box()
		table := tableOf(b)
		want, sure := bestPairing(table, len(b.Highs), api.Always)
		_, possible := bestPairing(table, len(b.Highs), api.Always, api.Either)
		match := must[[]int](t)(voice.Match(b))
		most := must[api.Range](t)(voice.Most(b))
		if !slices.Equal(match, want) || most != to(sure, possible) {
			t.Fatal(b, table, match, most, want, possible)
		}
		if sure < len(b.Lows) {
			alone++
		}
		if sure < possible {
			more++
		}
		if len(match) > 1 && match[0] > match[1] && match[1] != none {
			later++
		}
	}
	if min(alone, more, later) < 100 {
		t.Error("too rare", alone, more, later)
	}
}

// shortOf goes through all sets of lower tongues, and returns the first one that has fewer upper ones than it is large.
func shortOf(table [][]int, highs int) ([]int, bool) {
	for _, set := range subsets(len(table)) {
		friends := 0
		for high := range highs {
			if slices.ContainsFunc(set, func(low int) bool { return table[low][high] == api.Always }) {
				friends++
			}
		}
		if friends < len(set) {
			return set, true
		}
	}
	return nil, false
}

// P5.2: Short is the first of the fewest lower tongues that cannot all have an upper one; there are some just if Match leaves one alone.
func TestShortAll(t *testing.T) {
	d := dice(3)
	var met [5]int
	for range 4000 {
		b := d.box()
		want, some := shortOf(tableOf(b), len(b.Highs))
		short, x := voice.Short(b)
		if some != (x == api.OK) || !some && x != api.ErrNone || !slices.Equal(short, want) {
			t.Fatal(b, short, want, x)
		}
		if slices.Contains(must[[]int](t)(voice.Match(b)), none) != some {
			t.Fatal(b, short)
		}
		met[len(short)]++
	}
	if min(met[0], met[1], met[2], met[3]) < 20 {
		t.Error("too rare", met)
	}
}

// P5.2: of several sets of lower tongues that cannot all have an upper one the first one is named, also ahead of a lesser number of bits.
func TestShortFirst(t *testing.T) {
	at := func(tones ...int) []api.Sound {
		var list []api.Sound
		for _, tone := range tones {
			list = append(list, flat(tone, tone))
		}
		return list
	}
	for i, c := range []struct {
		lows, highs []int
		want        []int
	}{
		{[]int{0, -14, -14, 0}, []int{14, 0}, []int{0, 3}},
		{[]int{-14, 0, 0, -14}, []int{14, 0}, []int{0, 3}},
		{[]int{-14, 0, -14, 0}, []int{14, 0}, []int{0, 2}},
		{[]int{16, 0, 0, 16}, []int{14, 30}, []int{0, 3}},
		{[]int{0, 0, 0, 0}, []int{14, 14, 14}, []int{0, 1, 2, 3}},
		{[]int{0, 0, 0, 0}, []int{14, 14}, []int{0, 1, 2}},
		{[]int{0, 0, 0, 0}, []int{14}, []int{0, 1}},
		{[]int{0, 0, 0, 0}, nil, []int{0}},
		{[]int{0, 0, 0, -14}, []int{14, 14}, []int{3}},
		{[]int{-14, 0, 0, 0}, []int{14, 14, 0}, []int{1, 2, 3}},
	} {
		if l, x := voice.Short(with(at(c.lows...), at(c.highs...))); !slices.Equal(l, c.want) || x != api.OK {
			t.Error(i, l, x)
		}
	}
}

// P5.2: boxes without tongues, and pairings in which a lower tongue is left alone so that others are not.
func TestMatchEdges(t *testing.T) {
	for i, c := range []struct {
		lows, highs  []api.Sound
		match, short []int
		most         api.Range
	}{
		{nil, nil, nil, nil, to(0, 0)},
		{nil, boxB().Highs, nil, nil, to(0, 0)},
		{boxB().Lows, nil, []int{-1, -1}, []int{0}, to(0, 0)},
		{[]api.Sound{flat(0, 0), flat(0, 0)}, []api.Sound{flat(14, 14)}, []int{0, -1}, []int{0, 1}, to(1, 1)},
		{[]api.Sound{flat(30, 30), flat(0, 0)}, []api.Sound{flat(14, 14)}, []int{-1, 0}, []int{0}, to(1, 1)},
		{[]api.Sound{flat(0, 0), flat(-8, -8)}, []api.Sound{flat(10, 10), flat(18, 18)}, []int{1, 0}, nil, to(2, 2)},
		{[]api.Sound{flat(0, 0), flat(0, 0), flat(0, 0), flat(0, 0)}, slices.Repeat([]api.Sound{flat(14, 14)}, 5), []int{0, 1, 2, 3}, nil, to(4, 4)},
		{[]api.Sound{flat(0, 0), flat(0, 9)}, []api.Sound{flat(14, 14), flat(19, 19)}, []int{0, -1}, []int{1}, to(1, 2)},
	} {
		b := with(c.lows, c.highs)
		match, x := voice.Match(b)
		short, y := voice.Short(b)
		most, z := voice.Most(b)
		want := api.OK
		if c.short == nil {
			want = api.ErrNone
		}
		if !slices.Equal(match, c.match) || !slices.Equal(short, c.short) || most != c.most || x != api.OK || y != want || z != api.OK {
			t.Error(i, match, short, most, x, y, z)
		}
	}
}
