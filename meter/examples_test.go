package meter_test

import (
	"slices"
	"testing"

	"musette/api"
	"musette/meter"
)

// lone returns the ear E without its reading 1.
func lone() api.Ear { return but(func(e *api.Ear) { e.Readings = e.Readings[:1] }) }

// mute returns the ear E without readings.
func mute() api.Ear { return heard(earE()) }

// P2.1: the examples of Check, Truths, Tones and Values.
func TestExamplesTones(t *testing.T) {
	for i, c := range []struct {
		e    api.Ear
		want api.Errno
	}{
		{earE(), api.OK},
		{but(func(e *api.Ear) { e.Slack = 4 }), api.ErrValue},
		{but(func(e *api.Ear) { e.Tones[0] = to(44000, 44021) }), api.ErrValue},
		{but(func(e *api.Ear) { e.Readings[0].B = 1 }), api.ErrValue},
		{but(func(e *api.Ear) { e.Readings[1].A = 1 }), api.ErrTwice},
	} {
		if x := meter.Check(c.e); x != c.want {
			t.Error(i, x)
		}
	}
	number, x := meter.Truths(earE())
	none, y := meter.Truths(earF())
	if number != 6 || none != 0 || x != api.OK || y != api.OK {
		t.Error(number, none, x, y)
	}
	tones, x := meter.Tones(earE())
	if !slices.Equal(tones, []api.Range{to(44000, 44005), to(44010, 44015)}) || x != api.OK {
		t.Error(tones, x)
	}
	six, x := meter.Values(earE(), 0)
	ten, y := meter.Values(lone(), 0)
	want := []int{44000, 44001, 44002, 44003, 44004, 44005, 44006, 44007, 44008, 44009}
	if !slices.Equal(six, want[:6]) || !slices.Equal(ten, want) || x != api.OK || y != api.OK {
		t.Error(six, ten, x, y)
	}
}

// P2.2: the examples of Higher, Beats and Within.
func TestExamplesSides(t *testing.T) {
	for i, c := range []struct {
		e     api.Ear
		want  int
		beats api.Range
	}{{earE(), api.Always, to(1, 1)}, {lone(), api.Either, to(0, 1)}} {
		v, x := meter.Higher(c.e, 1, 0)
		beats, y := meter.Beats(c.e, 0, 1, 10)
		if v != c.want || beats != c.beats || x != api.OK || y != api.OK {
			t.Error(i, v, beats, x, y)
		}
	}
	for i, c := range []struct {
		want api.Range
		v    int
	}{{to(44000, 44005), api.Always}, {to(44001, 44009), api.Either}, {to(44006, 44010), api.Never}} {
		if v, x := meter.Within(earE(), 0, c.want); v != c.v || x != api.OK {
			t.Error(i, v, x)
		}
	}
}

// P2.3: the examples of False and Doubted.
func TestExamplesFalse(t *testing.T) {
	list, x := meter.False(earF())
	none, y := meter.False(earE())
	doubted, z := meter.Doubted(earF())
	if !slices.Equal(list, []int{1}) || len(none) > 0 || !slices.Equal(doubted, []int{api.Never, api.Either, api.Either}) || x != api.OK || y != api.OK || z != api.OK {
		t.Error(list, none, doubted, x, y, z)
	}
}

// P2.4, P2.5: the examples of Worst, Gate, Best and Needs.
func TestExamplesReadings(t *testing.T) {
	for i, c := range []struct {
		r    api.Reading
		want int
	}{{higher(1, 0), 6}, {count(0, 20, 0, 0), 5}} {
		if n, x := meter.Worst(earE(), c.r); n != c.want || x != api.OK {
			t.Error(i, n, x)
		}
	}
	for i, c := range []struct {
		width, want int
		x           api.Errno
	}{{9, 10, api.OK}, {8, 20, api.OK}, {3, 0, api.ErrNone}} {
		if n, x := meter.Gate(mute(), 0, c.width); n != c.want || x != c.x {
			t.Error(i, n, x)
		}
	}
	if r, n, x := meter.Best(earG(), []int{20}); r != higher(0, 1) || n != 2 || x != api.OK {
		t.Error(r, n, x)
	}
	for i, c := range []struct {
		want   api.Range
		number int
	}{{to(44001, 44001), 2}, {to(44002, 44002), 1}, {to(44000, 44009), 0}} {
		if n, x := meter.Needs(earG(), 0, c.want, []int{20}); n != c.number || x != api.OK {
			t.Error(i, n, x)
		}
	}
}

// P2.6: the example of Write.
func TestExamplesWrite(t *testing.T) {
	if s, x := meter.Write(mute()); s != "slack 0\ntone [44000,44010]\ntone [44005,44015]\nheard\n" || x != api.OK {
		t.Error(s, x)
	}
}
