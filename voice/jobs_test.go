package voice_test

import (
	"slices"
	"testing"

	"musette/api"
	"musette/reed"
	"musette/voice"
)

// jobOf returns the job of a pair, in the words of the chapter: all truths are gone through.
func jobOf(b api.Box, low, high int) api.Job {
	one, other := b.Lows[low], b.Highs[high]
	due := dueAt(b.Law, b.Note)
	j := api.Job{
		Tongue: api.Tongue{Pitch: to(other.Tone.Min-due, other.Tone.Max-due), Tip: b.Tip, Root: b.Root},
		File:   b.File, Within: b.Span, Meter: b.Meter,
	}
	for pressure := 0; pressure <= b.Press; pressure++ {
		r := to(999, -999)
		for _, lower := range truthsOf(one) {
			for _, upper := range truthsOf(other) {
				by := upper.at(pressure) - lower.at(pressure) - upper.tone
				r = to(min(r.Min, by), max(r.Max, by))
			}
		}
		j.Shifts = append(j.Shifts, r)
	}
	return j
}

// P5.3: Job is what the chapter says, and a valid job; Strokes is what Guided says of it.
func TestJobsAll(t *testing.T) {
	d := dice(4)
	met := map[int]int{}
	for range 1500 {
		b := d.box()
		for low := range b.Lows {
			for high := range b.Highs {
				want := jobOf(b, low, high)
				if j := must[api.Job](t)(voice.Job(b, low, high)); !sameJob(j, want) || reed.Check(j) != api.OK {
					t.Fatal(b, low, high, j, want)
				}
				guided, y := reed.Guided(want)
				if n, x := voice.Strokes(b, low, high); n != guided || x != y || x != api.OK && (x != api.ErrNone || n != 0) {
					t.Fatal(b, low, high, n, x, guided, y)
				}
				if y != api.OK {
					guided = -1
				}
				met[guided]++
			}
		}
	}
	if min(met[-1], met[0], met[1], met[2], met[3], met[4]) < 20 {
		t.Error("too rare", met)
	}
}

// P5.3: the job of a pair is valid even where all numbers are at their ends.
func TestJobsWide(t *testing.T) {
	for _, tone := range []api.Range{to(-30, 30), to(-30, -30), to(30, 30)} {
		for _, slope := range []api.Range{to(-3, 3), to(-3, -3), to(3, 3)} {
			for _, low := range []api.Sound{sound(to(-30, 30), to(-3, 3)), sound(to(-30, -30), to(-3, -3)), sound(to(30, 30), to(3, 3))} {
				for _, first := range []int{0, 30} {
					b := api.Box{Law: api.Law{First: first, Span: 20, Press: 3}, Lows: []api.Sound{low}, Highs: []api.Sound{sound(tone, slope)}, Tip: to(0, 100), Root: to(0, 100), Meter: 6}
					j := must[api.Job](t)(voice.Job(b, 0, 0))
					if !sameJob(j, jobOf(b, 0, 0)) || reed.Check(j) != api.OK {
						t.Error(b, j)
					}
				}
			}
		}
	}
}

// filedOf goes through all pairings in which each lower tongue has an upper one, and returns the first one with the fewest strokes.
func filedOf(t *testing.T, b api.Box) (best []int, least int) {
	t.Helper()
	least = -1
	for _, pairing := range pairingsOf(len(b.Lows), len(b.Highs)) {
		sum, ok := 0, true
		for low, high := range pairing {
			if high == none {
				ok = false
				break
			}
			n, x := voice.Strokes(b, low, high)
			ok = ok && x == api.OK
			sum += n
		}
		if ok && (least < 0 || sum < least) {
			best, least = pairing, sum
		}
	}
	return best, least
}

// P5.3, P5.11: no pairing needs fewer strokes than Filed, nor as many and comes before: all are gone through.
func TestFiledAll(t *testing.T) {
	d := dice(5)
	met, other := map[int]int{}, 0
	for range 1500 {
		b := d.box()
		b.Highs = b.Highs[:min(4, len(b.Highs))]
		best, least := filedOf(t, b)
		l, n, x := voice.Filed(b)
		if least < 0 {
			if x != api.ErrNone || n != 0 || len(l) > 0 {
				t.Fatal(b, l, n, x)
			}
		} else if x != api.OK || n != least || !slices.Equal(l, best) {
			t.Fatal(b, l, n, x, best, least)
		}
		met[min(least, 3)]++
		if match := must[[]int](t)(voice.Match(b)); least >= 0 && !slices.Equal(match, best) {
			other++
		}
	}
	if min(met[-1], met[0], met[1], met[2], met[3], other) < 20 {
		t.Error("too rare", met, other)
	}
}

// P5.3: boxes without tongues, with too few upper ones, and ones that are best filed in another order.
func TestFiledEdges(t *testing.T) {
	swapped := but(func(b *api.Box) { b.Highs[0], b.Highs[1] = b.Highs[1], b.Highs[0] })
	for i, c := range []struct {
		b    api.Box
		want []int
		n    int
		x    api.Errno
	}{
		{with(nil, nil), nil, 0, api.OK},
		{with(nil, boxB().Highs), nil, 0, api.OK},
		{with(boxB().Lows, nil), nil, 0, api.ErrNone},
		{with(boxB().Lows, boxB().Highs[:1]), nil, 0, api.ErrNone},
		{with(boxB().Lows, boxB().Highs[1:]), []int{0, 1}, 6, api.OK},
		{swapped, []int{1, 0}, 0, api.OK},
		{but(func(b *api.Box) { b.Highs, b.Least = b.Highs[1:], 39 }), nil, 0, api.ErrNone},
		{with([]api.Sound{flat(0, 0), flat(0, 0)}, slices.Repeat([]api.Sound{flat(14, 14)}, 5)), []int{0, 1}, 0, api.OK},
	} {
		if l, n, x := voice.Filed(c.b); !slices.Equal(l, c.want) || n != c.n || x != c.x {
			t.Error(i, l, n, x)
		}
	}
}
