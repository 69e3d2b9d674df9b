package bellow_test

import (
	"slices"
	"testing"

	"musette/api"
	"musette/bellow"
)

// inside tells whether a number is in a range.
func inside(n int, r api.Range) bool { return r.Min <= n && n <= r.Max }

// tells tells whether a verdict may be given if something is so in a truth, or is not.
func tells(verdict int, so bool) bool {
	if so {
		return verdict != api.Never
	}
	return verdict != api.Always
}

// P4.7: whatever truly leaks, and however much air notes truly take, it is said; verdicts are right.
func TestTrue(t *testing.T) {
	d := dice(11)
	for range 4000 {
		b, leaks := d.bellows()
		sum := 0
		all, verdicts := must[[]api.Range](t)(bellow.Leaks(b)), must[[]int](t)(bellow.Most(b))
		for corner, leak := range leaks {
			sum += leak
			if !inside(leak, all[corner]) || !tells(verdicts[corner], leak == slices.Max(leaks)) {
				t.Fatal(b, leaks, all, verdicts)
			}
		}
		if r := must[api.Range](t)(bellow.Leak(b)); !inside(sum, r) {
			t.Fatal(b, leaks, r)
		}
		p := d.piece(6)
		ways := d.ways(p)
		var airs []int
		for _, n := range p {
			airs = append(airs, d.roll(n.Air.Min, n.Air.Max))
		}
		truth := levelsOf(p, ways, leaks, d.roll(b.Air.Min, b.Air.Max), airs)
		levels := must[[]api.Range](t)(bellow.Levels(b, p, ways))
		for i, air := range truth {
			if !inside(air, levels[i]) {
				t.Fatal(b, p, ways, truth, levels)
			}
		}
		if v := must[int](t)(bellow.Plays(b, p, ways)); !tells(v, fits(b, truth)) {
			t.Fatal(b, p, ways, truth, v)
		}
	}
}

// P4.9: a note of as many seconds as the least number of Holds can always be played alone, one more second than the greatest number never.
func TestHeld(t *testing.T) {
	d := dice(12)
	met := map[int]int{}
	for range 4000 {
		b, _ := d.bellows()
		air, way := d.roll(0, 9), d.roll(1, 2)
		held := must[api.Range](t)(bellow.Holds(b, air, way))
		for seconds := 1; seconds <= api.MaxLength; seconds++ {
			want := api.Either
			if seconds <= held.Min {
				want = api.Always
			} else if seconds > held.Max {
				want = api.Never
			}
			met[want]++
			if v := must[int](t)(bellow.Plays(b, []api.Note{note(seconds, air, air)}, []int{way})); v != want {
				t.Fatal(b, air, way, held, seconds, v)
			}
		}
	}
	if min(met[api.Always], met[api.Never], met[api.Either]) < 500 {
		t.Error("too rare", met)
	}
}

// P4.10: by the ways of Turns the piece can always be played, and by no valid ways with fewer turns, or with as many that come before; Hope needs no more turns.
func TestTurned(t *testing.T) {
	d := dice(13)
	fewer := 0
	for range 1500 {
		b, _ := d.bellows()
		p := d.piece(6)
		ways, turns, x := bellow.Turns(b, p)
		hope, some, y := bellow.Hope(b, p)
		if x == api.OK && (y != api.OK || some > turns) {
			t.Fatal(b, p, ways, hope, y)
		}
		if some < turns {
			fewer++
		}
		for _, other := range validWays(p) {
			v := must[int](t)(bellow.Plays(b, p, other))
			before := x != api.OK || turnsOf(other) < turns || turnsOf(other) == turns && slices.Compare(other, ways) < 0
			sooner := y != api.OK || turnsOf(other) < some || turnsOf(other) == some && slices.Compare(other, hope) < 0
			if v == api.Always && before || v != api.Never && sooner || slices.Equal(other, ways) && x == api.OK && v != api.Always || slices.Equal(other, hope) && y == api.OK && v == api.Never {
				t.Fatal(b, p, ways, hope, other, v)
			}
		}
	}
	if fewer < 10 {
		t.Error("Hope seldom needs fewer turns", fewer)
	}
}

// P4.11: as many notes as Stuck says can be played, one more cannot.
func TestStuckThere(t *testing.T) {
	d := dice(14)
	for range 3000 {
		b, _ := d.bellows()
		p := d.piece(6)
		number := must[int](t)(bellow.Stuck(b, p))
		if _, _, x := bellow.Turns(b, p[:number]); x != api.OK {
			t.Fatal(b, p, number, x)
		}
		if number < len(p) {
			if _, _, x := bellow.Turns(b, p[:number+1]); x != api.ErrNone {
				t.Fatal(b, p, number, x)
			}
		}
	}
}

// mended returns a bellows that was not tested, with some corners mended.
func mended(b api.Bellow, corners []int) api.Bellow {
	b = copyOf(b)
	for _, corner := range corners {
		b.Corners[corner] = to(0, 0)
	}
	return b
}

// P4.12: with the corners of Mend mended there are ways; with fewer, or as many that come before, there are none.
func TestMended(t *testing.T) {
	d := dice(15)
	met := 0
	for range 2000 {
		b, _ := d.bellows()
		b.Tests = nil
		p := d.piece(6)
		corners, x := bellow.Mend(b, p)
		found := false
		for _, other := range subsets(len(b.Corners)) {
			if x != api.OK && len(other) < len(b.Corners) {
				continue
			}
			_, _, y := bellow.Turns(mended(b, other), p)
			found = x == api.OK && slices.Equal(other, corners)
			if found != (y == api.OK) {
				t.Fatal(b, p, corners, x, other, y)
			}
			if found {
				break
			}
		}
		if found != (x == api.OK) {
			t.Fatal(b, p, corners, x)
		}
		met += len(corners)
	}
	if met < 300 {
		t.Error("too rare", met)
	}
}

// P4.13: with the rests of Rests there are ways; with fewer, or as many that come before, there are none; if all notes have rests, none is missing.
func TestRested(t *testing.T) {
	d := dice(16)
	met := 0
	for range 3000 {
		b, _ := d.bellows()
		p := d.piece(6)
		for i := range p {
			p[i].Rest = d.roll(0, 3) == 0
		}
		notes, x := bellow.Rests(b, p)
		full := subsets(len(p))
		_, _, y := bellow.Turns(b, rested(p, full[len(full)-1]))
		if x != y {
			t.Fatal(b, p, notes, x, y)
		}
		if none, z := bellow.Rests(b, rested(p, full[len(full)-1])); len(none) > 0 || z != x {
			t.Fatal(b, p, none, z)
		}
		for _, other := range full {
			if x != api.OK {
				break
			}
			_, _, y := bellow.Turns(b, rested(p, other))
			if slices.Equal(other, notes) {
				if y != api.OK {
					t.Fatal(b, p, notes, y)
				}
				break
			}
			if y != api.ErrNone {
				t.Fatal(b, p, notes, other, y)
			}
		}
		met += len(notes)
	}
	if met < 100 {
		t.Error("too rare", met)
	}
}

// tighter returns a bellows and a piece of which more is known, with more rests; the leaks stay true.
func (d *dice) tighter(b api.Bellow, p []api.Note, leaks []int) (api.Bellow, []api.Note) {
	b, p = copyOf(b), slices.Clone(p)
	b.Air = d.within(b.Air)
	for corner, r := range b.Corners {
		b.Corners[corner] = to(d.roll(r.Min, leaks[corner]), d.roll(leaks[corner], r.Max))
	}
	for i, n := range p {
		p[i].Air, p[i].Rest = d.within(n.Air), n.Rest || d.roll(0, 1) == 0
	}
	if len(leaks) > 0 && len(b.Tests) < api.MaxTests {
		b.Tests = append(b.Tests, d.test(leaks))
	}
	return b, p
}

// P4.14: who knows more needs no more turns, and no verdict that is Always or Never changes.
func TestTighter(t *testing.T) {
	d := dice(17)
	sure, better := 0, 0
	for range 4000 {
		b, leaks := d.bellows()
		p := d.piece(6)
		other, q := d.tighter(b, p, leaks)
		_, turns, x := bellow.Turns(b, p)
		_, fewer, y := bellow.Turns(other, q)
		if x == api.OK && (y != api.OK || fewer > turns) {
			t.Fatal(b, p, other, q, turns, fewer, y)
		}
		ways := d.ways(p)
		before := append(must[[]int](t)(bellow.Most(b)), must[int](t)(bellow.Plays(b, p, ways)))
		after := append(must[[]int](t)(bellow.Most(other)), must[int](t)(bellow.Plays(other, q, ways)))
		for i, verdict := range before {
			if verdict != api.Either && after[i] != verdict {
				t.Fatal(b, p, other, q, before, after)
			}
			if verdict == api.Either && after[i] != verdict {
				sure++
			}
		}
		if x != y || fewer < turns {
			better++
		}
	}
	if min(sure, better) < 100 {
		t.Error("too rare", sure, better)
	}
}

// about returns ways that are turned about.
func about(ways []int) []int {
	var other []int
	for _, way := range ways {
		other = append(other, api.WayPress+api.WayPull-way)
	}
	return other
}

// P4.15: if the bellows is as far open as it was closed, and all ways are turned about, levels are mirrored, and the rest stays.
func TestMirrored(t *testing.T) {
	d := dice(18)
	for range 2000 {
		b, _ := d.bellows()
		p := d.piece(6)
		mirror := func(r api.Range) api.Range { return to(b.Full-r.Max, b.Full-r.Min) }
		m := copyOf(b)
		m.Air = mirror(b.Air)
		ways := d.ways(p)
		for i, r := range must[[]api.Range](t)(bellow.Levels(b, p, ways)) {
			if must[[]api.Range](t)(bellow.Levels(m, p, about(ways)))[i] != mirror(r) {
				t.Fatal(b, p, ways, i)
			}
		}
		air := d.roll(0, 9)
		if must[int](t)(bellow.Plays(b, p, ways)) != must[int](t)(bellow.Plays(m, p, about(ways))) ||
			must[api.Range](t)(bellow.Holds(b, air, 1)) != must[api.Range](t)(bellow.Holds(m, air, 2)) ||
			must[int](t)(bellow.Stuck(b, p)) != must[int](t)(bellow.Stuck(m, p)) {
			t.Fatal(b, p, ways, air)
		}
		for i, c := range []func(api.Bellow, []api.Note) ([]int, int, api.Errno){bellow.Turns, bellow.Hope} {
			one, turns, x := c(b, p)
			_, other, y := c(m, p)
			if turns != other || x != y {
				t.Fatal(b, p, i, turns, other, x, y)
			}
			if v, z := bellow.Plays(m, p, about(one)); x == api.OK && (z != api.OK || v == api.Never || i == 0 && v != api.Always) {
				t.Fatal(b, p, i, one, v, z)
			}
		}
		for i, c := range []func(api.Bellow, []api.Note) ([]int, api.Errno){bellow.Mend, bellow.Rests} {
			one, x := c(b, p)
			if other, y := c(m, p); !slices.Equal(one, other) || x != y {
				t.Fatal(b, p, i, one, other, x, y)
			}
		}
	}
}

// P4.16: levels of the first notes are those of the piece cut there.
func TestSplit(t *testing.T) {
	d := dice(19)
	for range 2000 {
		b, _ := d.bellows()
		p := d.piece(6)
		ways := d.ways(p)
		levels := must[[]api.Range](t)(bellow.Levels(b, p, ways))
		if len(levels) != len(p) {
			t.Fatal(b, p, ways, levels)
		}
		for number := range levels {
			if !slices.Equal(must[[]api.Range](t)(bellow.Levels(b, p[:number], ways[:number])), levels[:number]) {
				t.Fatal(b, p, ways, number)
			}
		}
	}
}
