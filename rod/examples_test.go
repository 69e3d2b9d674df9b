package rod_test

import (
	"slices"
	"testing"

	"musette/api"
	"musette/rod"
)

// P3.1: the examples of Check, Turns, Lifts, Sounds and Force.
func TestExamplesSounds(t *testing.T) {
	for i, c := range []struct {
		m    api.Machine
		want api.Errno
	}{
		{machineM(), api.OK},
		{but(func(m *api.Machine) { m.Open = 7 }), api.ErrValue},
		{but(func(m *api.Machine) { m.Buttons[1] = 3 }), api.ErrUnknown},
		{but(func(m *api.Machine) { m.Links[0].From = 2 }), api.ErrTwice},
		{but(func(m *api.Machine) { m.Weights = m.Weights[:3] }), api.ErrText},
	} {
		if x := rod.Check(c.m); x != c.want {
			t.Error(i, x)
		}
	}
	for i, c := range []struct {
		h    api.Hand
		want []int
	}{{press(0), []int{6, 0, 0}}, {press(1), []int{0, 6, 2}}, {pull(press(0), 0), []int{6, 0, 4}}} {
		if l, x := rod.Turns(machineM(), c.h); !slices.Equal(l, c.want) || x != api.OK {
			t.Error(i, l, x)
		}
	}
	lifts, x := rod.Lifts(machineM(), press(0, 1))
	sounds, y := rod.Sounds(machineM(), press(0, 1))
	force, z := rod.Force(machineM(), press(0, 1))
	if !slices.Equal(lifts, []int{4, 3, 1, 0}) || !slices.Equal(sounds, []int{0, 1}) || force != 9 || x != api.OK || y != api.OK || z != api.OK {
		t.Error(lifts, sounds, force, x, y, z)
	}
	// The example of the document's own table.
	if l, x := rod.Sounds(machineM(), pull(press(0), 0)); !slices.Equal(l, []int{0, 1, 2}) || x != api.OK {
		t.Error(l, x)
	}
}

// P3.2, P3.3: the examples of Depth, Chart and Chord.
func TestExamplesButtons(t *testing.T) {
	for i, c := range []struct {
		on                  []int
		button, lever, want int
		x                   api.Errno
	}{{nil, 0, 1, 6, api.OK}, {nil, 0, 0, 4, api.OK}, {[]int{0}, 0, 2, 5, api.OK}, {nil, 1, 2, 0, api.ErrNone}} {
		if n, x := rod.Depth(machineM(), c.on, c.button, c.lever); n != c.want || x != c.x {
			t.Error(i, n, x)
		}
	}
	for i, c := range []struct {
		on   []int
		want [][]int
	}{{nil, [][]int{{0, 1}, {1}}}, {[]int{0}, [][]int{{0, 1, 2}, {1}}}} {
		if l, x := rod.Chart(machineM(), c.on); !lists(l, c.want) || x != api.OK {
			t.Error(i, l, x)
		}
	}
	for i, c := range []struct {
		levers, want []int
		x            api.Errno
	}{{[]int{0, 1}, []int{0}, api.OK}, {[]int{1}, []int{1}, api.OK}, {nil, nil, api.OK}, {[]int{0}, nil, api.ErrNone}} {
		if l, x := rod.Chord(machineM(), nil, c.levers); !slices.Equal(l, c.want) || x != c.x {
			t.Error(i, l, x)
		}
	}
}

// P3.4: the examples of Play.
func TestExamplesPlay(t *testing.T) {
	l, x := rod.Play(machineM(), []api.Event{{Kind: api.EventPress}, {Kind: api.EventOn}, {Kind: api.EventPress, Which: 1}, {Kind: api.EventRelease}})
	if !lists(l, [][]int{{0, 1}, {0, 1, 2}, {0, 1, 2}, {1}}) || x != api.OK {
		t.Error(l, x)
	}
	if l, x := rod.Play(machineM(), []api.Event{{Kind: api.EventPress}, {Kind: api.EventPress}}); len(l) > 0 || x != api.ErrTwice {
		t.Error(l, x)
	}
}

// P3.5: the examples of Useless, Faults and Broken.
func TestExamplesFaults(t *testing.T) {
	useless, x := rod.Useless(machineM())
	faults, y := rod.Faults(machineM())
	if len(useless) > 0 || len(faults) != 14 || faults[8] != (api.Fault{Kind: api.FaultPin}) || x != api.OK || y != api.OK {
		t.Error(useless, faults, x, y)
	}
	for i, c := range []struct{ faults, want []int }{{[]int{9}, []int{0}}, {[]int{7, 9}, []int{0, 3}}} {
		if l, x := rod.Broken(machineM(), c.faults, press(0)); !slices.Equal(l, c.want) || x != api.OK {
			t.Error(i, l, x)
		}
	}
}

// P3.6, P3.7: the examples of Suspects, Fewest, Blame and Test.
func TestExamplesSuspects(t *testing.T) {
	for i, c := range []struct {
		levers, want []int
		x            api.Errno
	}{
		{[]int{0}, []int{1, 9}, api.OK},
		{[]int{0, 1, 3}, []int{7}, api.OK},
		{[]int{0, 1}, []int{-1, 2, 3, 4, 5, 10, 11, 12, 13}, api.OK},
		{[]int{3}, nil, api.ErrNone},
	} {
		if l, x := rod.Suspects(machineM(), []api.Heard{heard(press(0), c.levers...)}); !slices.Equal(l, c.want) || x != c.x {
			t.Error(i, l, x)
		}
	}
	one, two := []api.Heard{heard(press(0), 0)}, []api.Heard{heard(press(0))}
	first, x := rod.Fewest(machineM(), one)
	second, y := rod.Fewest(machineM(), two)
	blame, z := rod.Blame(machineM(), two)
	want := slices.Repeat([]int{api.Never}, 14)
	want[0], want[1], want[8], want[9] = api.Either, api.Either, api.Either, api.Either
	if !slices.Equal(first, []int{1}) || !slices.Equal(second, []int{0, 1}) || !slices.Equal(blame, want) || x != api.OK || y != api.OK || z != api.OK {
		t.Error(first, second, blame, x, y, z)
	}
	if h, left, x := rod.Test(machineM(), one); !same(h, press(1)) || left != 1 || x != api.OK {
		t.Error(h, left, x)
	}
}

// P3.8: the example of Write.
func TestExamplesWrite(t *testing.T) {
	m := but(func(m *api.Machine) { m.Pins, m.Links = m.Pins[1:2], m.Links[1:] })
	if text, x := rod.Write(m); text != "M/3/4/1/6/2\nB/0\nB/1\nP/0/1/4\nL/1/2/-1/4\nW/1\nW/2\nW/3\nW/4\nE\n" || x != api.OK {
		t.Error(text, x)
	}
}
