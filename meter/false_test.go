package meter_test

import (
	"slices"
	"testing"

	"musette/api"
	"musette/meter"
)

// P2.3, P2.11: all lists of readings are looked at.
func TestFalseOfAllLists(t *testing.T) {
	d := dice(23)
	var lengths [7]int
	var doubts [4]int
	for range 3000 {
		e := d.ear(size{tongues: 3, width: 4, readings: 5})
		for len(e.Readings) < 6 && d.roll(0, 2) > 0 { // these contradict others rather often
			tones := column(choices(e.Tones)[:1], func(tones []int) int { return tones[0] })
			e.Readings = append(e.Readings, d.reading(plain(e.Tones[0]), tones))
		}
		lists := fewest(e)
		list, x := meter.False(e)
		if !slices.Equal(list, lists[0]) || x != api.OK {
			t.Fatal(e, list, x, lists)
		}
		lengths[len(list)]++
		verdicts, x := meter.Doubted(e)
		if len(verdicts) != len(e.Readings) || x != api.OK {
			t.Fatal(e, verdicts, x)
		}
		for reading, v := range verdicts {
			if v != verdictOf(lists, func(list []int) bool { return slices.Contains(list, reading) }) {
				t.Fatal(e, verdicts, lists)
			}
			doubts[v]++
		}
	}
	if min(lengths[0], lengths[1], lengths[2], lengths[3], doubts[1], doubts[2], doubts[3]) < 50 {
		t.Error("a length or a verdict is too rare", lengths, doubts)
	}
}

// P2.3: the first one of several lists, and readings that are in all or none of them.
func TestFalseLists(t *testing.T) {
	const y, n, m = api.Always, api.Never, api.Either
	pair := plain(to(500, 505), to(500, 505))
	low, high := count(0, 20, 0, 0), count(0, 20, 25000, 25000)
	for i, c := range []struct {
		e    api.Ear
		list []int
		all  []int
	}{
		{pair, nil, nil},
		{heard(pair, higher(0, 1)), nil, []int{n}},
		{heard(pair, low), []int{0}, []int{y}},
		{heard(pair, higher(0, 1), higher(1, 0)), []int{0}, []int{m, m}},
		{heard(pair, higher(0, 1), higher(1, 0), higher(1, 0)), []int{0}, []int{y, n, n}},
		{heard(pair, higher(0, 1), higher(1, 0), higher(0, 1)), []int{1}, []int{n, y, n}},
		{heard(pair, higher(0, 1), higher(1, 0), higher(1, 0), higher(0, 1)), []int{0, 3}, []int{m, m, m, m}},
		{heard(pair, higher(0, 1), low, higher(1, 0), high), []int{0, 1, 3}, []int{m, y, m, y}},
		{heard(pair, low, high, low, high, low, high), []int{0, 1, 2, 3, 4, 5}, []int{y, y, y, y, y, y}},
		{heard(pair, higher(1, 0), beat(0, 1, 20, 0, 0), count(1, 20, 100, 101), higher(0, 1)), []int{0, 1}, []int{m, m, n, m}},
	} {
		list, x := meter.False(c.e)
		all, z := meter.Doubted(c.e)
		if !slices.Equal(list, c.list) || !slices.Equal(all, c.all) || x != api.OK || z != api.OK {
			t.Error(i, list, all, x, z)
		}
	}
}
