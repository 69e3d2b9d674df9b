package bellow_test

import (
	"slices"
	"testing"

	"musette/api"
	"musette/bellow"
)

// P4.3, P4.8: levels and verdicts are just what all truths say.
func TestPlays(t *testing.T) {
	d := dice(4)
	met := map[int]int{}
	for range 4000 {
		b, _ := d.bellows()
		p := d.piece(4)
		for range 3 {
			ways := d.ways(p)
			want := outcomeOf(b, nil, p, ways)
			levels, x := bellow.Levels(b, p, ways)
			verdict, y := bellow.Plays(b, p, ways)
			if !slices.Equal(levels, want.levels) || verdict != want.verdict() || x != api.OK || y != api.OK {
				t.Fatal(b, p, ways, levels, verdict, want, x, y)
			}
			met[verdict]++
		}
	}
	if min(met[api.Always], met[api.Never], met[api.Either]) < 500 {
		t.Error("too rare", met)
	}
}

// P4.3: the leak and the air of a truth stay the same from note to note, and the ends of a bellows belong to it.
func TestPlaysTruths(t *testing.T) {
	leaky := func(full, air int, tests ...api.Leakage) api.Bellow {
		return api.Bellow{Full: full, Air: to(air, air), Corners: []api.Range{to(0, 5)}, Tests: tests}
	}
	for i, c := range []struct {
		b      api.Bellow
		p      []api.Note
		ways   []int
		levels []api.Range
		want   int
	}{
		// What is pressed out through leaks is pulled in again.
		{leaky(10, 10), []api.Note{note(2, 0, 0), rest(2, 0, 0)}, []int{1, 2}, []api.Range{to(0, 10), to(10, 10)}, api.Always},
		{leaky(10, 0), []api.Note{note(2, 0, 0), rest(1, 0, 0)}, []int{2, 1}, []api.Range{to(0, 10), to(0, 5)}, api.Always},
		// A leak of 5 alone fits the first note, and one of at most 2 the second one.
		{leaky(25, 0), []api.Note{note(5, 0, 0), rest(7, 0, 0)}, []int{2, 2}, []api.Range{to(0, 25), to(0, 60)}, api.Either},
		{leaky(25, 0, lost(1, 3, 5, 0)), []api.Note{note(5, 0, 0), rest(7, 0, 0)}, []int{2, 2}, []api.Range{to(15, 25), to(36, 60)}, api.Never},
		// With 4 or 5 seconds of a note only some airs are met: 3 is in between.
		{tight(2, 2, 2), []api.Note{note(5, 0, 1)}, []int{1}, []api.Range{to(-3, 2)}, api.Either},
		{tight(4, 2, 2), []api.Note{note(5, 1, 2)}, []int{1}, []api.Range{to(-8, -3)}, api.Never},
		{tight(3, 3, 3), []api.Note{note(4, 0, 1), rest(1, 1, 1), note(2, 1, 2)}, []int{1, 1, 1}, []api.Range{to(-1, 3), to(-2, 2), to(-6, 0)}, api.Either},
		{tight(3, 3, 3), []api.Note{note(4, 0, 1), rest(1, 2, 2), note(2, 1, 2)}, []int{1, 1, 1}, []api.Range{to(-1, 3), to(-3, 1), to(-7, -1)}, api.Never},
		// The ends.
		{tight(200, 0, 0), []api.Note{note(20, 9, 9), rest(20, 1, 1), rest(20, 9, 9), rest(20, 1, 1)}, []int{2, 2, 1, 1}, []api.Range{to(180, 180), to(200, 200), to(20, 20), to(0, 0)}, api.Always},
		{tight(9, 0, 9), []api.Note{note(1, 0, 0)}, []int{1}, []api.Range{to(0, 9)}, api.Always},
		{tight(9, 0, 9), []api.Note{note(1, 9, 9)}, []int{1}, []api.Range{to(-9, 0)}, api.Either},
		{tight(9, 0, 8), []api.Note{note(1, 9, 9)}, []int{1}, []api.Range{to(-9, -1)}, api.Never},
		{tight(9, 1, 9), []api.Note{note(1, 9, 9)}, []int{2}, []api.Range{to(10, 18)}, api.Never},
		// What is lost on the way does not come back.
		{tight(9, 2, 2), []api.Note{note(1, 3, 3), rest(1, 3, 3)}, []int{1, 2}, []api.Range{to(-1, -1), to(2, 2)}, api.Never},
		{tight(9, 8, 8), []api.Note{note(1, 2, 2), rest(1, 2, 2)}, []int{2, 1}, []api.Range{to(10, 10), to(8, 8)}, api.Never},
		{bellowsB(), nil, nil, nil, api.Always},
	} {
		levels, x := bellow.Levels(c.b, c.p, c.ways)
		verdict, y := bellow.Plays(c.b, c.p, c.ways)
		if !slices.Equal(levels, c.levels) || verdict != c.want || x != api.OK || y != api.OK {
			t.Error(i, levels, verdict, x, y)
		}
	}
}

// P4.4, P4.8, P4.10: the ways are the first ones of those with the fewest turns.
func TestTurns(t *testing.T) {
	d := dice(5)
	found, hoped, turned := 0, 0, map[int]int{}
	for range 2500 {
		b, _ := d.bellows()
		p := d.piece(4)
		for name, c := range map[string]struct {
			of       func(api.Bellow, []api.Note) ([]int, int, api.Errno)
			verdicts []int
		}{"Turns": {bellow.Turns, []int{api.Always}}, "Hope": {bellow.Hope, []int{api.Always, api.Either}}} {
			ways, turns, x := c.of(b, p)
			want, ok := firstWays(b, nil, p, c.verdicts...)
			if ok != (x == api.OK) || !ok && x != api.ErrNone || !slices.Equal(ways, want) || turns != turnsOf(want) {
				t.Fatal(name, b, p, ways, turns, x, want)
			}
			if ok && name == "Turns" {
				found++
				turned[turns]++
			} else if ok {
				hoped++
			}
		}
	}
	if found < 500 || hoped < found+100 || turned[1] < 100 || turned[2] < 10 {
		t.Error("too rare", found, hoped, turned)
	}
}

// P4.4: ways with fewer turns come first, of others those that are pressed first; a bellows that is empty at the beginning is pulled.
func TestTurnsOrder(t *testing.T) {
	ones := func(number int) []api.Note { return slices.Repeat([]api.Note{rest(1, 5, 5)}, number) }
	for i, c := range []struct {
		b     api.Bellow
		p     []api.Note
		ways  []int
		turns int
		x     api.Errno
	}{
		{tight(9, 5, 5), nil, nil, 0, api.OK},
		{tight(200, 100, 100), ones(6), []int{1, 1, 1, 1, 1, 1}, 0, api.OK},
		{tight(200, 10, 10), ones(6), []int{2, 2, 2, 2, 2, 2}, 0, api.OK},
		{tight(10, 5, 5), ones(2), []int{1, 2}, 1, api.OK},
		{tight(10, 5, 5), ones(3), []int{1, 2, 2}, 1, api.OK},
		{tight(10, 5, 5), ones(4), []int{1, 2, 2, 1}, 2, api.OK},
		{tight(5, 0, 0), ones(6), []int{2, 1, 2, 1, 2, 1}, 5, api.OK},
		{tight(5, 5, 5), ones(6), []int{1, 2, 1, 2, 1, 2}, 5, api.OK},
		{tight(4, 2, 2), ones(1), nil, 0, api.ErrNone},
		{tight(6, 0, 6), ones(1), nil, 0, api.ErrNone},
		{tight(5, 0, 0), []api.Note{note(1, 5, 5), note(1, 5, 5)}, nil, 0, api.ErrNone},
	} {
		if ways, turns, x := bellow.Turns(c.b, c.p); !slices.Equal(ways, c.ways) || turns != c.turns || x != c.x {
			t.Error(i, ways, turns, x)
		}
	}
	if ways, turns, x := bellow.Hope(tight(6, 0, 6), ones(2)); !slices.Equal(ways, []int{1, 2}) || turns != 1 || x != api.OK {
		t.Error(ways, turns, x)
	}
	if ways, turns, x := bellow.Hope(tight(4, 0, 4), ones(2)); len(ways) > 0 || turns != 0 || x != api.ErrNone {
		t.Error(ways, turns, x)
	}
}

// P4.4, P4.11: as many notes can be played as Stuck says, and not one more.
func TestStuck(t *testing.T) {
	d := dice(6)
	met := map[int]int{}
	for range 2000 {
		b, _ := d.bellows()
		p := d.piece(4)
		want := 0
		for number := range len(p) + 1 {
			if _, ok := firstWays(b, nil, p[:number], api.Always); ok {
				want = number
			}
		}
		if n, x := bellow.Stuck(b, p); n != want || x != api.OK {
			t.Fatal(b, p, n, x, want)
		}
		met[len(p)-want]++
	}
	if min(met[0], met[1], met[2], met[3]) < 30 {
		t.Error("too rare", met)
	}
}

// P4.5, P4.8, P4.12: the corners are the first ones of the fewest; tests were made ahead of it all.
func TestMend(t *testing.T) {
	d := dice(7)
	met, none := map[int]int{}, 0
	for range 2500 {
		b, _ := d.bellows()
		p := d.piece(3)
		want, due := first(len(b.Corners), func(mended []int) bool {
			_, ok := firstWays(b, mended, p, api.Always)
			return ok
		})
		if l, x := bellow.Mend(b, p); !slices.Equal(l, want) || x != due {
			t.Fatal(b, p, l, x, want, due)
		}
		met[len(want)]++
		if due == api.ErrNone {
			none++
		}
	}
	if min(met[1], met[2]) < 30 || met[3] < 5 || none < 100 {
		t.Error("too rare", met, none)
	}
}

// P4.5: mended corners leak nothing, though tests have shown that they did; what the tests tell of other corners stays.
func TestMendTests(t *testing.T) {
	two := api.Bellow{Full: 20, Air: to(10, 10), Corners: []api.Range{to(0, 5), to(0, 5)}, Tests: []api.Leakage{lost(1, 5, 5, 0, 1)}}
	sure := two
	sure.Tests = append(slices.Clone(two.Tests), lost(1, 4, 4, 1))
	// Pulled to the end by a leak it is full, so that the next note can be pressed.
	helped := api.Bellow{Full: 10, Air: to(5, 5), Corners: []api.Range{to(1, 1)}}
	for i, c := range []struct {
		b    api.Bellow
		p    []api.Note
		want []int
		x    api.Errno
	}{
		{two, []api.Note{note(2, 0, 0)}, nil, api.OK},
		{two, []api.Note{note(3, 0, 0)}, []int{0, 1}, api.OK},
		{sure, []api.Note{note(3, 0, 0)}, []int{1}, api.OK},
		{sure, []api.Note{note(10, 0, 0)}, []int{1}, api.OK},
		{sure, []api.Note{note(11, 0, 0)}, []int{0, 1}, api.OK},
		{sure, []api.Note{note(11, 1, 1)}, nil, api.ErrNone},
		{two, nil, nil, api.OK},
		{tight(10, 5, 5), []api.Note{note(1, 6, 6)}, nil, api.ErrNone},
		{tight(10, 5, 5), []api.Note{note(1, 5, 5)}, nil, api.OK},
		// It can be played as it is, but not with all corners mended: the chapter asks for that first.
		{helped, []api.Note{note(5, 0, 0), rest(1, 9, 9)}, nil, api.ErrNone},
	} {
		if l, x := bellow.Mend(c.b, c.p); !slices.Equal(l, c.want) || x != c.x {
			t.Error(i, l, x)
		}
	}
	if ways, turns, x := bellow.Turns(helped, []api.Note{note(5, 0, 0), rest(1, 9, 9)}); !slices.Equal(ways, []int{1, 2}) || turns != 1 || x != api.OK {
		t.Error(ways, turns, x)
	}
}

// P4.5, P4.8, P4.13: the notes are the first ones of the fewest.
func TestRests(t *testing.T) {
	d := dice(8)
	met, none := map[int]int{}, 0
	for range 2500 {
		b, _ := d.bellows()
		p := d.piece(4)
		for i := range p {
			p[i].Rest = d.roll(0, 3) == 0
		}
		want, due := first(len(p), func(notes []int) bool {
			_, ok := firstWays(b, nil, rested(p, notes), api.Always)
			return ok
		})
		if l, x := bellow.Rests(b, p); !slices.Equal(l, want) || x != due {
			t.Fatal(b, p, l, x, want, due)
		}
		met[len(want)]++
		if due == api.ErrNone {
			none++
		}
	}
	if met[1] < 100 || met[2] < 5 || none < 100 {
		t.Error("too rare", met, none)
	}
}

// P4.5: there can be rests missing ahead of all notes but the first one.
func TestRestsOrder(t *testing.T) {
	ones := func(number int) []api.Note { return slices.Repeat([]api.Note{note(1, 5, 5)}, number) }
	for i, c := range []struct {
		b    api.Bellow
		p    []api.Note
		want []int
		x    api.Errno
	}{
		{tight(5, 5, 5), ones(6), []int{1, 2, 3, 4, 5}, api.OK},
		{tight(5, 5, 5), ones(1), nil, api.OK},
		{tight(5, 5, 5), nil, nil, api.OK},
		{tight(10, 5, 5), ones(3), []int{1}, api.OK},
		{tight(10, 10, 10), ones(3), []int{2}, api.OK},
		{tight(10, 10, 10), ones(4), []int{2}, api.OK},
		{tight(10, 10, 10), append(ones(2), rest(1, 5, 5), note(1, 5, 5), note(1, 5, 5)), []int{4}, api.OK},
		{tight(4, 4, 4), ones(1), nil, api.ErrNone},
		{tight(5, 4, 5), ones(2), nil, api.ErrNone},
	} {
		if l, x := bellow.Rests(c.b, c.p); !slices.Equal(l, c.want) || x != c.x {
			t.Error(i, l, x)
		}
	}
}
