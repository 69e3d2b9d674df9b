package hand_test

import (
	"slices"
	"testing"

	"musette/api"
	"musette/hand"
)

// P11.1: the examples of Check and Deviations.
func TestExamplesCheck(t *testing.T) {
	for i, c := range []struct {
		r    api.Roster
		want api.Errno
	}{
		{rosterR(), api.OK},
		{but(func(r *api.Roster) { r.Hands = 5 }), api.ErrValue},
		{but(func(r *api.Roster) { r.Drift = to(1, 0) }), api.ErrOrder},
		{but(func(r *api.Roster) { r.Entries[0].Hand = 2 }), api.ErrUnknown},
		{but(func(r *api.Roster) { r.Entries[0].Ear.Tones = append(r.Entries[0].Ear.Tones, to(1, 1)) }), api.ErrMany},
	} {
		if e := hand.Check(c.r); e != c.want {
			t.Error(i, e)
		}
	}
	if list, e := hand.Deviations(rosterR()); !slices.Equal(list, []api.Range{to(8, 12), to(-4, -3), to(3, 3)}) || e != api.OK {
		t.Error(list, e)
	}
}

// P11.2, P11.3: the examples of Explains, Fewest and Convicts.
func TestExamplesFewest(t *testing.T) {
	for i, c := range []struct {
		hands []int
		want  bool
	}{{[]int{0}, true}, {nil, false}, {[]int{0, 1}, true}} {
		if is, e := hand.Explains(rosterR(), c.hands); is != c.want || e != api.OK {
			t.Error(i, is, e)
		}
	}
	for i, c := range []struct {
		r        api.Roster
		lists    [][]int
		verdicts []int
		e        api.Errno
	}{
		{rosterR(), [][]int{{0}}, []int{always, never}, api.OK},
		{rosterV(), [][]int{{0}, {1}}, []int{either, either}, api.OK},
		{rosterX(), nil, nil, api.ErrNone},
	} {
		lists, e := hand.Fewest(c.r)
		verdicts, f := hand.Convicts(c.r)
		if !same(lists, c.lists) || !slices.Equal(verdicts, c.verdicts) || e != c.e || f != c.e {
			t.Error(i, lists, verdicts, e, f)
		}
	}
}

// P11.3: the examples of Rates and Tuners.
func TestExamplesRates(t *testing.T) {
	for i, c := range []struct {
		hand int
		want []int
		e    api.Errno
	}{{0, []int{1, 2}, api.OK}, {1, nil, api.ErrNone}} {
		if list, e := hand.Rates(rosterR(), c.hand); !slices.Equal(list, c.want) || e != c.e {
			t.Error(i, list, e)
		}
	}
	for i, c := range []struct {
		entry int
		want  []int
	}{{1, []int{1}}, {2, []int{0, 1}}} {
		if list, e := hand.Tuners(rosterR(), c.entry); !slices.Equal(list, c.want) || e != api.OK {
			t.Error(i, list, e)
		}
	}
}

// P11.4: the examples of Errors, Test and Trusted.
func TestExamplesErrors(t *testing.T) {
	for i, c := range []struct {
		hand    int
		errors  api.Range
		trusted int
	}{{0, to(10, 20), 2}, {1, to(0, 0), 60}} {
		r, e := hand.Errors(rosterR(), c.hand, 10)
		day, f := hand.Trusted(rosterR(), c.hand, 5)
		if r != c.errors || day != c.trusted || e != api.OK || f != api.OK {
			t.Error(i, r, day, e, f)
		}
	}
	if r, e := hand.Test(rosterR(), 0, 10, 44000); r != to(44007, 44023) || e != api.OK {
		t.Error(r, e)
	}
}

// P11.5, P11.6: the examples of Next and Write.
func TestExamplesNext(t *testing.T) {
	if which, left, e := hand.Next(rosterV()); which != 0 || left != 1 || e != api.OK {
		t.Error(which, left, e)
	}
	alone := but(func(r *api.Roster) { r.Entries = r.Entries[2:] })
	if text, e := hand.Write(alone); text != "hands 2 -2..2 3\ntuned 4 -1 44000\nslack 0\ntone [44003,44003]\nheard\nclosed\n" || e != api.OK {
		t.Error(text, e)
	}
}
