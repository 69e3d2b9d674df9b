package rod_test

import (
	"math"
	"slices"
	"testing"

	"musette/api"
	"musette/rod"
)

// event returns an event.
func event(kind, which int) api.Event { return api.Event{Kind: kind, Which: which} }

// playOf returns what sounds after each event, or the first error of an event, in the words of the chapter.
func playOf(m api.Machine, l []api.Event) ([][]int, api.Errno) {
	pressed, on := map[int]bool{}, map[int]bool{}
	var all [][]int
	for _, e := range l {
		set, limit := pressed, len(m.Buttons)
		if e.Kind == api.EventOn || e.Kind == api.EventOff {
			set, limit = on, m.Registers
		}
		adds := e.Kind == api.EventPress || e.Kind == api.EventOn
		switch {
		case e.Kind < 1 || e.Kind > 4:
			return nil, api.ErrKind
		case e.Which < 0 || e.Which >= limit:
			return nil, api.ErrUnknown
		case adds && set[e.Which]:
			return nil, api.ErrTwice
		case !adds && !set[e.Which]:
			return nil, api.ErrNone
		}
		set[e.Which] = adds
		h := api.Hand{}
		for n := range 4 {
			if pressed[n] {
				h.Buttons = append(h.Buttons, n)
			}
			if on[n] {
				h.On = append(h.On, n)
			}
		}
		all = append(all, soundsOf(m, nil, h))
	}
	return all, api.OK
}

// event returns an event that mostly is possible after others.
func (d *dice) event(m api.Machine, l []api.Event) api.Event {
	for range 30 {
		e := event(d.roll(1, 4), d.roll(0, 3))
		if _, x := playOf(m, append(slices.Clone(l), e)); x == api.OK {
			return e
		}
	}
	return event(d.roll(0, 5), d.roll(-1, 4))
}

// P3.4: any events.
func TestPlay(t *testing.T) {
	d := dice(4)
	met := map[api.Errno]int{}
	for range 3000 {
		m := d.machine()
		var l []api.Event
		for range d.roll(0, 12) {
			l = append(l, d.event(m, l))
		}
		want, due := playOf(m, l)
		if got, x := rod.Play(m, l); !lists(got, want) || x != due {
			t.Fatal(m, l, got, x)
		}
		met[due]++
	}
	if met[api.OK] < 1000 || met[api.ErrKind] < 20 || met[api.ErrUnknown] < 20 {
		t.Error("too rare", met)
	}
}

// P3.4: the errors of events, in their order, and as late as can be.
func TestErrorsOfPlay(t *testing.T) {
	const press, release, on, off = api.EventPress, api.EventRelease, api.EventOn, api.EventOff
	m := machineM()
	for _, which := range []int{math.MinInt, -1, 4, math.MaxInt} {
		for kind, want := range []api.Errno{api.ErrKind, api.ErrUnknown, api.ErrUnknown, api.ErrUnknown, api.ErrUnknown, api.ErrKind} {
			if l, x := rod.Play(m, []api.Event{event(kind, which)}); len(l) > 0 || x != want {
				t.Error(kind, which, l, x)
			}
		}
		if l, x := rod.Play(m, []api.Event{event(which, 0)}); which != 4 && (len(l) > 0 || x != api.ErrKind) {
			t.Error(which, l, x)
		}
	}
	for i, c := range []struct {
		l    []api.Event
		want api.Errno
	}{
		{[]api.Event{event(press, 1), event(press, 1)}, api.ErrTwice},
		{[]api.Event{event(press, 0), event(press, 1), event(on, 0), event(press, 0)}, api.ErrTwice},
		{[]api.Event{event(on, 0), event(press, 0), event(on, 0)}, api.ErrTwice},
		{[]api.Event{event(on, 0), event(release, 0)}, api.ErrNone},
		{[]api.Event{event(press, 0), event(off, 0)}, api.ErrNone},
		{[]api.Event{event(press, 0), event(release, 1)}, api.ErrNone},
		{[]api.Event{event(press, 0), event(release, 0), event(release, 0)}, api.ErrNone},
		{[]api.Event{event(on, 0), event(off, 0), event(off, 0)}, api.ErrNone},
		{[]api.Event{event(on, 1)}, api.ErrUnknown},
		{[]api.Event{event(press, 2)}, api.ErrUnknown},
		{[]api.Event{event(release, 0), event(9, 0)}, api.ErrNone},
		{[]api.Event{event(9, 0), event(release, 0)}, api.ErrKind},
		{append(slices.Repeat([]api.Event{event(press, 0), event(release, 0)}, 5), event(on, 0), event(on, 0)), api.ErrTwice},
		{slices.Repeat([]api.Event{event(press, 0), event(release, 0)}, 6), api.OK},
		{slices.Repeat([]api.Event{event(on, 0), event(off, 0)}, 6), api.OK},
		{slices.Repeat([]api.Event{event(9, 9)}, 13), api.ErrMany},
		{append(slices.Repeat([]api.Event{event(press, 0), event(release, 0)}, 6), event(on, 0)), api.ErrMany},
		{nil, api.OK},
	} {
		l, x := rod.Play(m, c.l)
		if x != c.want || x != api.OK && len(l) > 0 || x == api.OK && len(l) != len(c.l) {
			t.Error(i, l, x)
		}
	}
}

// P3.9: in whichever order buttons are pressed and registers put on, and whatever was pressed and released between, in the end just the levers of that hand sound.
func TestOrderOfEvents(t *testing.T) {
	d := dice(5)
	for range 3000 {
		m := d.machine()
		h := d.hand(m)
		var l []api.Event
		for _, b := range h.Buttons {
			l = append(l, event(api.EventPress, b))
		}
		for _, r := range h.On {
			l = append(l, event(api.EventOn, r))
		}
		for i := range l {
			j := d.roll(0, i)
			l[i], l[j] = l[j], l[i]
		}
		for range d.roll(0, 2) { // what is pressed and released again
			limit, on := len(m.Buttons), h.Buttons
			first, second := api.EventPress, api.EventRelease
			if d.roll(0, 1) == 0 {
				limit, on, first, second = m.Registers, h.On, api.EventOn, api.EventOff
			}
			which := d.roll(0, 3)
			if which >= limit || slices.Contains(on, which) || slices.ContainsFunc(l, func(e api.Event) bool { return e.Kind == second && e.Which == which }) {
				continue
			}
			from := d.roll(0, len(l))
			to := d.roll(from, len(l))
			l = slices.Insert(l, to, event(second, which))
			l = slices.Insert(l, from, event(first, which))
		}
		sounds := must[[]int](t)(rod.Sounds(m, h))
		played := must[[][]int](t)(rod.Play(m, l))
		if len(l) > 0 && !slices.Equal(played[len(l)-1], sounds) {
			t.Fatal(m, h, l, played, sounds)
		}
	}
}
