package bellow_test

import (
	"slices"
	"testing"

	"musette/api"
	"musette/bellow"
)

// P4.1: the examples of Check, Leak, Leaks and Most.
func TestExamplesLeaks(t *testing.T) {
	for i, c := range []struct {
		b    api.Bellow
		want api.Errno
	}{
		{bellowsB(), api.OK},
		{but(func(b *api.Bellow) { b.Air = to(40, 101) }), api.ErrValue},
		{but(func(b *api.Bellow) { b.Tests[0].Open = []int{0, 2} }), api.ErrUnknown},
		{but(func(b *api.Bellow) { b.Tests[0].Open = nil }), api.ErrFew},
	} {
		if x := bellow.Check(c.b); x != c.want {
			t.Error(i, x)
		}
	}
	leak, x := bellow.Leak(bellowsB())
	leaks, y := bellow.Leaks(bellowsB())
	most, z := bellow.Most(bellowsB())
	if leak != to(3, 3) || !slices.Equal(leaks, []api.Range{to(0, 2), to(1, 3)}) || !slices.Equal(most, []int{api.Either, api.Either}) || x != api.OK || y != api.OK || z != api.OK {
		t.Error(leak, leaks, most, x, y, z)
	}
	if l, x := bellow.Leaks(but(func(b *api.Bellow) { b.Corners[1] = to(2, 3) })); !slices.Equal(l, []api.Range{to(0, 1), to(2, 3)}) || x != api.OK {
		t.Error(l, x)
	}
	if l, x := bellow.Leaks(but(func(b *api.Bellow) { b.Corners[1] = to(0, 0) })); len(l) > 0 || x != api.ErrAgainst {
		t.Error(l, x)
	}
}

// P4.2, P4.3: the examples of Holds, Levels and Plays.
func TestExamplesPlays(t *testing.T) {
	for i, c := range []struct{ air, way, want int }{{2, api.WayPress, 8}, {2, api.WayPull, 12}, {0, api.WayPress, 13}} {
		if r, x := bellow.Holds(bellowsB(), c.air, c.way); r != to(c.want, c.want) || x != api.OK {
			t.Error(i, r, x)
		}
	}
	for i, c := range []struct {
		ways []int
		want []api.Range
		x    api.Errno
	}{
		{[]int{1, 1, 1}, []api.Range{to(16, 20), to(-14, -10), to(-44, -34)}, api.OK},
		{[]int{1, 2, 2}, []api.Range{to(16, 20), to(46, 50), to(70, 80)}, api.OK},
		{[]int{1, 1, 2}, nil, api.ErrOrder},
		{[]int{2, 2}, nil, api.ErrFew},
	} {
		if l, x := bellow.Levels(bellowsB(), pieceP(), c.ways); !slices.Equal(l, c.want) || x != c.x {
			t.Error(i, l, x)
		}
	}
	for i, c := range []struct {
		b    api.Bellow
		ways []int
		want int
	}{
		{bellowsB(), []int{1, 1, 1}, api.Never},
		{bellowsB(), []int{1, 2, 2}, api.Always},
		{but(func(b *api.Bellow) { b.Air = to(39, 39) }), []int{2, 1, 1}, api.Either},
	} {
		if v, x := bellow.Plays(c.b, pieceP(), c.ways); v != c.want || x != api.OK {
			t.Error(i, v, x)
		}
	}
}

// P4.4, P4.5: the examples of Turns, Hope, Stuck, Rests and Mend.
func TestExamplesTurns(t *testing.T) {
	ways, turns, x := bellow.Turns(bellowsB(), pieceP())
	hope, some, y := bellow.Hope(bellowsB(), pieceP())
	if !slices.Equal(ways, []int{1, 2, 2}) || turns != 1 || !slices.Equal(hope, []int{1, 2, 2}) || some != 1 || x != api.OK || y != api.OK {
		t.Error(ways, turns, hope, some, x, y)
	}
	if ways, turns, x := bellow.Turns(bellowsB(), pieceQ()); len(ways) > 0 || turns != 0 || x != api.ErrNone {
		t.Error(ways, turns, x)
	}
	number, x := bellow.Stuck(bellowsB(), pieceQ())
	rests, y := bellow.Rests(bellowsB(), pieceQ())
	if number != 2 || !slices.Equal(rests, []int{1}) || x != api.OK || y != api.OK {
		t.Error(number, rests, x, y)
	}
	for i, c := range []struct {
		p    []api.Note
		want []int
		x    api.Errno
	}{{pieceQ(), []int{0, 1}, api.OK}, {pieceP(), nil, api.OK}, {[]api.Note{note(20, 9, 9)}, nil, api.ErrNone}} {
		if l, x := bellow.Mend(bellowsB(), c.p); !slices.Equal(l, c.want) || x != c.x {
			t.Error(i, l, x)
		}
	}
}

// P4.6: the example of Write.
func TestExamplesWrite(t *testing.T) {
	b := but(func(b *api.Bellow) { b.Corners, b.Tests = nil, nil })
	if text, x := bellow.Write(b, nil); text != "full 100 40-40\nfine\n" || x != api.OK {
		t.Errorf("%q %v", text, x)
	}
}
