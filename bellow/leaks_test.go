package bellow_test

import (
	"slices"
	"testing"

	"musette/api"
	"musette/bellow"
)

// P4.1, P4.5, P4.8: leaks are just those of all truths, whatever tests there are.
func TestLeaks(t *testing.T) {
	d := dice(1)
	met, none := map[int]int{}, 0
	for range 3000 {
		b := d.against()
		all := truthsOf(b)
		leaks, x := bellow.Leaks(b)
		leak, y := bellow.Leak(b)
		most, z := bellow.Most(b)
		if len(all) == 0 {
			none++
			if x != api.ErrAgainst || y != x || z != x || len(leaks) > 0 || leak != to(0, 0) || len(most) > 0 {
				t.Fatal(b, leaks, leak, most, x, y, z)
			}
			continue
		}
		var values [4][]int
		var sums []int
		var so [4]int
		for _, l := range all {
			sum := 0
			for corner, n := range l {
				values[corner] = append(values[corner], n)
				sum += n
				if n == slices.Max(l) {
					so[corner]++
				}
			}
			sums = append(sums, sum)
		}
		if x != api.OK || y != api.OK || z != api.OK || leak != to(slices.Min(sums), slices.Max(sums)) || len(leaks) != len(b.Corners) || len(most) != len(b.Corners) {
			t.Fatal(b, leaks, leak, most, x, y, z)
		}
		for corner, r := range leaks {
			if r != to(slices.Min(values[corner]), slices.Max(values[corner])) || most[corner] != verdictOf(so[corner], len(all)-so[corner]) {
				t.Fatal(b, corner, leaks, most)
			}
			met[most[corner]]++
		}
	}
	if none < 100 || min(met[api.Always], met[api.Never], met[api.Either]) < 100 {
		t.Error("too rare", none, met)
	}
}

// P4.1: one corner leaks most, and so does each of several that leak as much.
func TestMostAlike(t *testing.T) {
	for i, c := range []struct {
		corners []api.Range
		want    []int
	}{
		{nil, nil},
		{[]api.Range{to(0, 5)}, []int{api.Always}},
		{[]api.Range{to(0, 0), to(0, 0), to(0, 0), to(0, 0)}, []int{api.Always, api.Always, api.Always, api.Always}},
		{[]api.Range{to(2, 2), to(0, 2), to(0, 1)}, []int{api.Always, api.Either, api.Never}},
		{[]api.Range{to(2, 2), to(1, 3), to(0, 1)}, []int{api.Either, api.Either, api.Never}},
	} {
		b := tight(1, 0, 0)
		b.Corners = c.corners
		if l, x := bellow.Most(b); !slices.Equal(l, c.want) || x != api.OK {
			t.Error(i, l, x)
		}
	}
}

// heldOf returns for how many seconds a note can be held, second by second.
func heldOf(full, air, change int) int {
	for seconds := range 601 {
		if air += change; air < 0 || air > full {
			return seconds
		}
	}
	return 600
}

// P4.2, P4.8: a note is held as long as in the truths that leak most and least, and with the least and the most air.
func TestHolds(t *testing.T) {
	d := dice(2)
	for range 1500 {
		b, _ := d.bellows()
		for air := range 10 {
			var press, pull []int
			for _, leaks := range truthsOf(b) {
				change := air
				for _, leak := range leaks {
					change += leak
				}
				for start := b.Air.Min; start <= b.Air.Max; start++ {
					press, pull = append(press, heldOf(b.Full, start, -change)), append(pull, heldOf(b.Full, start, change))
				}
			}
			for way, all := range map[int][]int{api.WayPress: press, api.WayPull: pull} {
				if r, x := bellow.Holds(b, air, way); r != to(slices.Min(all), slices.Max(all)) || x != api.OK {
					t.Fatal(b, air, way, r, x)
				}
			}
		}
	}
}

// P4.2: nothing is held for more than 600 seconds; an empty bellows that takes air is not pressed at all.
func TestHoldsEnds(t *testing.T) {
	leaky := but(func(b *api.Bellow) { b.Corners, b.Tests = []api.Range{to(0, 1)}, nil })
	for i, c := range []struct {
		b        api.Bellow
		air, way int
		want     api.Range
	}{
		{tight(200, 0, 200), 0, api.WayPress, to(600, 600)},
		{tight(200, 0, 200), 0, api.WayPull, to(600, 600)},
		{tight(1, 0, 0), 0, api.WayPress, to(600, 600)},
		{tight(200, 0, 200), 1, api.WayPress, to(0, 200)},
		{tight(200, 0, 200), 1, api.WayPull, to(0, 200)},
		{tight(200, 199, 200), 9, api.WayPress, to(22, 22)},
		{tight(9, 0, 0), 9, api.WayPress, to(0, 0)},
		{tight(9, 0, 0), 9, api.WayPull, to(1, 1)},
		{tight(9, 1, 1), 9, api.WayPull, to(0, 0)},
		{leaky, 0, api.WayPress, to(40, 600)},
		{leaky, 0, api.WayPull, to(60, 600)},
		{leaky, 9, api.WayPress, to(4, 4)},
	} {
		if r, x := bellow.Holds(c.b, c.air, c.way); r != c.want || x != api.OK {
			t.Error(i, r, x)
		}
	}
}

// P4.5: With adds a test as the last one, and keeps all others.
func TestWith(t *testing.T) {
	d := dice(3)
	added, against := 0, 0
	for range 2000 {
		b, leaks := d.bellows()
		if len(leaks) == 0 || len(b.Tests) == api.MaxTests {
			continue
		}
		test := d.test(leaks)
		if d.roll(0, 1) == 0 {
			test.Lost = d.around(d.roll(0, 20), 1, 400)
		}
		want := copyOf(b)
		want.Tests = append(want.Tests, test)
		more, x := bellow.With(b, test)
		if len(truthsOf(want)) == 0 {
			against++
			if x != api.ErrAgainst || !isZero(more) {
				t.Fatal(b, test, more, x)
			}
			continue
		}
		added++
		if x != api.OK || !equal(more, want) {
			t.Fatal(b, test, more, x)
		}
	}
	if min(added, against) < 100 {
		t.Error("too rare", added, against)
	}
}
