package meter_test

import (
	"math"
	"slices"
	"testing"

	"musette/api"
	"musette/meter"
)

// P2.4: an ear with one more reading.
func TestWithOfAllTruths(t *testing.T) {
	d := dice(24)
	refused := 0
	for range 3000 {
		e := d.ear(small)
		tones := choices(e.Tones)
		r := d.reading(e, tones[d.roll(0, len(tones)-1)])
		want := heard(e, append(slices.Clone(e.Readings), r)...)
		next, x := meter.With(e, r)
		if len(truths(want)) == 0 {
			if x != api.ErrAgainst || !isZero(next) {
				t.Fatal(e, r, next, x)
			}
			refused++
			continue
		}
		if x != api.OK || !equal(next, want) {
			t.Fatal(e, r, next, x)
		}
	}
	if refused < 100 || refused > 2500 {
		t.Error("readings are refused too seldom or too often", refused)
	}
}

// P2.4, P2.8: the worst outcome of a reading; what it shows does not matter.
func TestWorstOfAllOutcomes(t *testing.T) {
	d := dice(25)
	for range 3000 {
		e := d.ear(small)
		all := truths(e)
		tones := choices(e.Tones)
		r := d.reading(e, tones[d.roll(0, len(tones)-1)])
		n, x := meter.Worst(e, r)
		if len(all) == 0 {
			if n != 0 || x != api.ErrAgainst {
				t.Fatal(e, r, n, x)
			}
			continue
		}
		if n != worst(e.Slack, r, all) || x != api.OK {
			t.Fatal(e, r, n, x, worst(e.Slack, r, all))
		}
		if r.Kind != api.ReadHigher {
			r.Shown = to(d.roll(0, 300), d.roll(300, 25000))
		}
		if again, x := meter.Worst(e, r); again != n || x != api.OK {
			t.Fatal(e, r, n, again, x)
		}
	}
}

// P2.4: the outcomes of a ReadCount begin at 0, and go up to the greatest count there can be.
func TestWorstAtTheEnds(t *testing.T) {
	slack := func(e api.Ear, slack int) api.Ear {
		e.Slack = slack
		return e
	}
	for i, c := range []struct {
		e    api.Ear
		r    api.Reading
		want int
	}{
		{plain(to(1, 1)), count(0, 1, 0, 0), 1},
		{slack(plain(to(1, 21)), 3), count(0, 20, 0, 0), 21},
		{slack(plain(to(1, 21)), 1), count(0, 20, 0, 0), 19},
		{plain(to(1, 21)), count(0, 20, 0, 0), 9},
		{plain(to(99980, 100000)), count(0, 20, 0, 0), 9},
		{plain(to(100000, 100000)), count(0, 20, 0, 0), 1},
		{slack(plain(to(99980, 100000)), 3), count(0, 20, 0, 0), 21},
		{slack(plain(to(99980, 100000)), 2), count(0, 20, 0, 0), 21},
		{slack(plain(to(99980, 100000)), 1), count(0, 20, 0, 0), 19},
		{plain(to(1, 1), to(99980, 100000)), beat(0, 1, 20, 0, 0), 5},
		{plain(to(1, 1), to(99980, 100000)), beat(1, 0, 1, 0, 0), 21},
		{plain(to(1, 1), to(99890, 99910)), beat(1, 0, 1, 0, 0), 11},
		{plain(to(1, 1), to(99980, 100000)), higher(1, 0), 21},
		{plain(to(5, 7), to(5, 7)), higher(1, 0), 6},
	} {
		if n, x := meter.Worst(c.e, c.r); n != c.want || x != api.OK {
			t.Error(i, n, x)
		}
	}
}

// P2.4, P2.13: the best one of all readings by gates, and of equally good ones the first one.
func TestBestOfAllReadings(t *testing.T) {
	d := dice(26)
	var kinds [4]int
	for range 2000 {
		e, gates := d.ear(size{tongues: 3, width: 4, readings: 3}), d.gates(3)
		all := truths(e)
		if len(all) == 0 {
			continue
		}
		var best api.Reading
		least := math.MaxInt
		for _, r := range byGates(len(e.Tones), gates) {
			if n := worst(e.Slack, r, all); n < least {
				best, least = r, n
			}
		}
		r, n, x := meter.Best(e, gates)
		if r != best || n != least || x != api.OK {
			t.Fatal(e, gates, r, n, x, best, least)
		}
		kinds[r.Kind]++
	}
	if min(kinds[1], kinds[2], kinds[3]) < 20 {
		t.Error("a kind is too rare", kinds)
	}
}

// P2.4: readings by gates come in the order of their kinds, then of A, of B and of the seconds.
func TestBestIsTheFirst(t *testing.T) {
	one := to(44000, 44000)
	two := to(44000, 44001)
	for i, c := range []struct {
		e     api.Ear
		gates []int
		r     api.Reading
		left  int
	}{
		{plain(one), []int{3, 7}, count(0, 3, 0, 0), 1},
		{plain(one, one, one), []int{3, 7}, count(0, 3, 0, 0), 1},
		{plain(one, two), []int{3, 7}, count(0, 3, 0, 0), 2},
		{plain(two, one), []int{3, 7}, higher(0, 1), 1},
		{plain(two, to(44009, 44009), one), []int{20}, higher(0, 2), 1},
		{plain(two, one, one), []int{20}, higher(0, 1), 1},
		{plain(to(43999, 43999), two, one), []int{20}, higher(1, 2), 1},
		{plain(one, to(44005, 44005), to(44004, 44005)), []int{10, 20}, beat(0, 2, 20, 0, 0), 1},
		{plain(to(44010, 44010), to(44000, 44000), to(44009, 44010)), []int{10, 11, 20}, beat(1, 2, 10, 0, 0), 1},
		{plain(one, one, to(44010, 44011)), []int{9, 10, 20}, count(0, 9, 0, 0), 2},
		{plain(one, to(44000, 44010)), []int{9, 10}, count(1, 10, 0, 0), 10},
		{plain(to(44000, 44010), one), []int{9, 10, 11}, count(0, 10, 0, 0), 10},
	} {
		if r, n, x := meter.Best(c.e, c.gates); r != c.r || n != c.left || x != api.OK {
			t.Error(i, r, n, x)
		}
	}
}

// gateOf returns the least seconds after which a tongue is known within a width, 0 if there are none: all outcomes are looked at.
func gateOf(e api.Ear, tongue, width int) int {
	all := truths(e)
	for seconds := 1; seconds <= 20; seconds++ {
		wide := false
		for _, part := range left(e.Slack, count(tongue, seconds, 0, 0), all) {
			r := ends(column(part, func(tones []int) int { return tones[tongue] }))
			wide = wide || r.Max-r.Min > width
		}
		if !wide {
			return seconds
		}
	}
	return 0
}

// P2.5, P2.14: the least gate of all.
func TestGateOfAllOutcomes(t *testing.T) {
	d := dice(27)
	var met [21]int
	none := 0
	for range 2000 {
		e := d.ear(size{tongues: 2, width: 20, readings: 1})
		tongue := d.roll(0, len(e.Tones)-1)
		width := d.roll(0, 14)
		if len(truths(e)) == 0 {
			continue
		}
		want := gateOf(e, tongue, width)
		n, x := meter.Gate(e, tongue, width)
		if n != want || (x == api.ErrNone) != (want == 0) || x != api.OK && x != api.ErrNone {
			t.Fatal(e, tongue, width, n, x, want)
		}
		met[n]++
		if x == api.ErrNone {
			none++
		}
	}
	if none < 50 || met[1] < 50 || met[20] < 5 || met[10] < 5 {
		t.Error("a gate is too rare", met, none)
	}
	if n, x := meter.Gate(mute(), 0, math.MaxInt); n != 1 || x != api.OK {
		t.Error(n, x)
	}
}

// between returns an ear with a tongue of several tones, and this tongue; the others are known, or nearly so, and lie between these tones.
func (d *dice) between() (api.Ear, int) {
	least := []int{50, 188, 44000}[d.roll(0, 2)] + d.roll(0, 4)
	wide := to(least, least+d.roll(2, 5))
	e := api.Ear{Slack: max(0, d.roll(-4, 1)), Tones: make([]api.Range, d.roll(1, 3))}
	for i := range e.Tones {
		tone := d.roll(wide.Min, wide.Max)
		e.Tones[i] = to(tone, tone+max(0, d.roll(-4, 1)))
	}
	tongue := d.roll(0, len(e.Tones)-1)
	e.Tones[tongue] = wide
	return e, tongue
}

// P2.5, P2.15: the fewest readings of all that decide.
func TestNeedsOfAllReadings(t *testing.T) {
	d := dice(28)
	var met [4]int
	for i := range 9000 {
		e, tongue := d.between()
		gates := d.gates(2)
		if i%3 == 0 {
			e = d.ear(size{tongues: 3, width: 4, readings: 2})
			tongue = d.roll(0, len(e.Tones)-1)
		}
		all := truths(e)
		if len(all) == 0 || len(all) > 60 {
			continue
		}
		r := e.Tones[tongue]
		least := d.roll(r.Min-1, r.Max)
		want := to(least, d.roll(least, r.Max+1))
		if i%3 == 1 {
			want = to(r.Max-1, r.Max-1)
		}
		number := 0
		so := func(tones []int) bool { return want.Min <= tones[tongue] && tones[tongue] <= want.Max }
		for number < 3 && !enough(e.Slack, byGates(len(e.Tones), gates), all, number, so) {
			number++
		}
		n, x := meter.Needs(e, tongue, want, gates)
		if number < 3 && (n != number || x != api.OK) || number == 3 && (n != 0 || x != api.ErrNone) {
			t.Fatal(e, tongue, want, gates, n, x, number)
		}
		met[number]++
	}
	if min(met[0], met[1], met[2], met[3]) < 50 {
		t.Error("a number is too rare", met)
	}
}

// P2.5: what one reading shows decides which one is the next one.
func TestNeedsOfTwo(t *testing.T) {
	between := plain(to(44000, 44003), to(44001, 44001), to(44002, 44002))
	for i, c := range []struct {
		e     api.Ear
		want  api.Range
		gates []int
		n     int
		x     api.Errno
	}{
		{between, to(44002, 44002), []int{1}, 2, api.OK},
		{between, to(44003, 44003), []int{1}, 1, api.OK},
		{between, to(44000, 44001), []int{1}, 1, api.OK},
		{between, to(44001, 44001), []int{1}, 0, api.ErrNone},
		{between, to(44000, 44000), []int{1}, 0, api.ErrNone},
		{between, to(44000, 44002), []int{20}, 1, api.OK},
		{plain(to(44000, 44010)), to(44000, 44000), []int{20}, 0, api.ErrNone},
		{plain(to(500, 500), to(491, 509)), to(505, 509), []int{20}, 2, api.OK},
		{plain(to(500, 500), to(491, 509)), to(505, 509), []int{19}, 0, api.ErrNone},
	} {
		tongue := 0
		if len(c.e.Tones) == 2 {
			tongue = 1
		}
		if n, x := meter.Needs(c.e, tongue, c.want, c.gates); n != c.n || x != c.x {
			t.Error(i, n, x)
		}
	}
}
