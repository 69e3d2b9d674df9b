package wax_test

import (
	"slices"
	"testing"

	"musette/api"
	"musette/wax"
)

const (
	always = api.Always
	never  = api.Never
	either = api.Either
)

// P6.1: the examples of Check and Weather.
func TestExamplesWeather(t *testing.T) {
	for i, c := range []struct {
		s    api.Season
		want api.Errno
	}{
		{seasonS(), api.OK},
		{seasonT(), api.OK},
		{but(func(s *api.Season) { s.Heats = nil }), api.ErrFew},
		{but(func(s *api.Season) { s.Damps = s.Damps[:2] }), api.ErrFew},
		{but(func(s *api.Season) { s.Heats[1] = to(28, 31) }), api.ErrValue},
		{but(func(s *api.Season) { s.Joints[1].Life = to(1, 10) }), api.ErrValue},
	} {
		if e := wax.Check(c.s); e != c.want {
			t.Error(i, e)
		}
	}
	for i, c := range []struct {
		s    api.Season
		want []api.Range
	}{
		{seasonS(), []api.Range{to(20, 21), to(28, 30), to(10, 10)}},
		{seasonT(), []api.Range{to(20, 21), to(30, 30), to(10, 10)}},
	} {
		if l, e := wax.Weather(c.s, api.JointWax); !slices.Equal(l, c.want) || e != api.OK {
			t.Error(i, l, e)
		}
		if l, e := wax.Weather(c.s, api.JointLeather); !slices.Equal(l, seasonS().Damps) || e != api.OK {
			t.Error(i, l, e)
		}
	}
}

// P6.2: the examples of Fails, Failed and Causes.
func TestExamplesFails(t *testing.T) {
	for i, c := range []struct {
		s     api.Season
		joint int
		want  []int
	}{{seasonS(), 0, []int{1, 2, 3}}, {seasonS(), 1, []int{1, 2}}, {seasonT(), 0, []int{1}}} {
		if l, e := wax.Fails(c.s, c.joint); !slices.Equal(l, c.want) || e != api.OK {
			t.Error(i, l, e)
		}
	}
	for _, c := range []struct{ joint, week, want int }{{0, 1, either}, {0, 0, never}, {1, 2, always}} {
		if v, e := wax.Failed(seasonS(), c.joint, c.week); v != c.want || e != api.OK {
			t.Error(c, v, e)
		}
	}
	for joint, want := range [][]int{{either, either, never}, {never, never, always}} {
		if l, e := wax.Causes(seasonS(), joint); !slices.Equal(l, want) || e != api.OK {
			t.Error(joint, l, e)
		}
	}
	for cause, n := range []int{wax.CauseHigh, wax.CauseLow, wax.CauseAge} {
		if n != cause {
			t.Error(cause, n)
		}
	}
}

// P6.3: the examples of First and Sound.
func TestExamplesFirst(t *testing.T) {
	for i, c := range []struct {
		s    api.Season
		want []int
	}{{seasonS(), []int{either, either}}, {seasonT(), []int{always, either}}} {
		if l, e := wax.First(c.s); !slices.Equal(l, c.want) || e != api.OK {
			t.Error(i, l, e)
		}
	}
	for i, c := range []struct {
		s    api.Season
		week int
		want api.Range
	}{{seasonS(), 1, to(0, 2)}, {seasonT(), 2, to(0, 0)}} {
		if r, e := wax.Sound(c.s, c.week); r != c.want || e != api.OK {
			t.Error(i, r, e)
		}
	}
}

// P6.4: the examples of Inspect and Unseen.
func TestExamplesLooks(t *testing.T) {
	for wait, want := range [][]int{{1, 2}, {1}, nil} {
		if l, e := wax.Inspect(seasonS(), wait); !slices.Equal(l, want) || e != api.OK {
			t.Error(wait, l, e)
		}
	}
	for i, c := range []struct {
		weeks []int
		want  int
	}{{[]int{2}, 1}, {[]int{1}, 1}, {nil, 2}} {
		if n, e := wax.Unseen(seasonS(), c.weeks); n != c.want || e != api.OK {
			t.Error(i, n, e)
		}
	}
}

// P6.5, P6.6, P6.7: the examples of Wrong, Margin, Harder and Write.
func TestExamplesOthers(t *testing.T) {
	for i, c := range []struct {
		s    api.Season
		want []int
	}{{seasonT(), nil}, {told(seen(0, 1, true), seen(0, 2, false)), []int{0}}} {
		if l, e := wax.Wrong(c.s); !slices.Equal(l, c.want) || e != api.OK {
			t.Error(i, l, e)
		}
	}
	if n, e := wax.Margin(seasonS(), 0, 0); n != 8 || e != api.OK {
		t.Error(n, e)
	}
	if n, e := wax.Margin(seasonS(), 0, 1); n != 0 || e != api.ErrNone {
		t.Error(n, e)
	}
	cold, e := wax.Harder(seasonS(), api.JointWax, 1, 1, -1)
	if l, x := wax.Fails(cold, 0); !slices.Equal(l, []int{2, 3}) || e != api.OK || x != api.OK {
		t.Error(cold, l, e, x)
	}
	short := but(func(s *api.Season) {
		s.Heats, s.Damps, s.Joints, s.Reports = s.Heats[:1], s.Damps[:1], s.Joints[:1], []api.Seen{seen(0, 0, true)}
	})
	const want = "week 20/21 50/50\nwax 30/31 10/10 1/2 9/9\nseen 0 0 failed\nspring\n"
	if text, e := wax.Write(short); text != want || e != api.OK {
		t.Error(text, e)
	}
}
