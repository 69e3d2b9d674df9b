package hand_test

import (
	"math"
	"slices"
	"testing"

	"musette/api"
	"musette/hand"
)

// extremes are numbers within bounds, at their ends, and beyond them.
var extremes = []int{math.MinInt, math.MinInt + 1, -100001, -10, -6, -5, -4, -2, -1, 0, 1, 2, 3, 4, 5, 6, 8, 9, 10, 20, 21, 59, 60, 61, 100, 300, 99999, 100000, 100001, math.MaxInt - 1, math.MaxInt}

// bounded returns the error of a number that has bounds; known that of one of so many.
func bounded(n, least, most int) api.Errno { return no(n < least || n > most, api.ErrValue) }

func known(n, number int) api.Errno { return no(n < 0 || n >= number, api.ErrUnknown) }

// firstOf returns the first of several errors that is one.
func firstOf(errors ...api.Errno) api.Errno {
	for _, e := range errors {
		if e != api.OK {
			return e
		}
	}
	return api.OK
}

// no returns an error if something is wrong.
func no(wrong bool, e api.Errno) api.Errno {
	if wrong {
		return e
	}
	return api.OK
}

// P11.1: the numbers of a roster have their bounds.
func TestCheckNumbers(t *testing.T) {
	for _, n := range extremes {
		if e := hand.Check(of(n, 0, to(0, 0))); e != bounded(n, 1, 4) {
			t.Error("hands", n, e)
		}
		if e := hand.Check(of(1, n, to(0, 0))); e != bounded(n, 0, 9) {
			t.Error("skill", n, e)
		}
		for _, m := range extremes {
			want := firstOf(bounded(n, -5, 5), bounded(m, -5, 5), no(n > m, api.ErrOrder))
			if e := hand.Check(of(1, 0, to(n, m))); e != want {
				t.Error("drift", n, m, e)
			}
			for hands := 1; hands <= api.MaxHands; hands++ {
				want := firstOf(known(n, hands), bounded(m, 0, 60))
				if e := hand.Check(setRight(of(hands, 0, to(0, 0)), api.Setting{}, api.Setting{Hand: n, Day: m})); e != want {
					t.Error("setting", hands, n, m, e)
				}
			}
		}
	}
	for n := range 8 {
		if e := hand.Check(setRight(of(1, 0, to(0, 0)), make([]api.Setting, n)...)); e != no(n > 4, api.ErrMany) {
			t.Error("settings", n, e)
		}
		if e := hand.Check(of(1, 0, to(0, 0), slices.Repeat([]api.Tuned{off(0, 0, 0)}, n)...)); e != no(n > 5, api.ErrMany) {
			t.Error("entries", n, e)
		}
	}
}

// P11.1: the numbers of an entry have their bounds, at each place.
func TestCheckEntries(t *testing.T) {
	for _, n := range extremes {
		for entry := range api.MaxEntries {
			for hands := 1; hands <= api.MaxHands; hands++ {
				check := func(change func(x *api.Tuned), want api.Errno) {
					t.Helper()
					r := of(hands, 0, to(0, 0), slices.Repeat([]api.Tuned{off(0, 0, 0)}, api.MaxEntries)...)
					change(&r.Entries[entry])
					if e := hand.Check(r); e != want {
						t.Error(hands, entry, n, e, want)
					}
				}
				check(func(x *api.Tuned) { x.Day = n }, bounded(n, 0, 60))
				check(func(x *api.Tuned) { x.Due = n }, bounded(n, 1, 100000))
				check(func(x *api.Tuned) { x.Hand = n }, no(n != nobody && known(n, hands) != api.OK, api.ErrUnknown))
			}
		}
	}
}

// wrongEars returns ears that an entry cannot have, and the error of each, those that are looked at first ahead of others.
func wrongEars() []struct {
	ear  api.Ear
	want api.Errno
} {
	slack := plain(5, 6)
	slack.Slack = 4
	return []struct {
		ear  api.Ear
		want api.Errno
	}{
		{slack, api.ErrValue},
		{api.Ear{}, api.ErrFew},
		{api.Ear{Readings: []api.Reading{{Kind: 9}}}, api.ErrFew},
		{api.Ear{Tones: slices.Repeat([]api.Range{to(6, 5)}, 4)}, api.ErrMany},
		{plain(0, 5), api.ErrValue},
		{plain(99990, 100001), api.ErrValue},
		{plain(6, 5), api.ErrOrder},
		{plain(5, 26), api.ErrValue},
		{api.Ear{Tones: []api.Range{to(5, 6), to(6, 5)}}, api.ErrOrder},
		{plain(5, 6, make([]api.Reading, 7)...), api.ErrMany},
		{plain(5, 6, count(1, 0, 1), api.Reading{}), api.ErrKind},
		{plain(5, 6, api.Reading{Kind: api.ReadHigher}), api.ErrTwice},
		{plain(5, 6, api.Reading{Kind: api.ReadBeat, B: 1}), api.ErrUnknown},
		{plain(5, 6, count(21, 0, 1)), api.ErrValue},
		{plain(5, 6, count(1, 1, 0)), api.ErrOrder},
		{api.Ear{Tones: []api.Range{to(5, 6), to(5, 6)}, Readings: []api.Reading{{}}}, api.ErrKind},
		{api.Ear{Tones: []api.Range{to(5, 6), to(5, 6)}}, api.ErrMany},
		{api.Ear{Tones: []api.Range{to(5, 6), to(5, 6), to(5, 6)}}, api.ErrMany},
		{api.Ear{Tones: []api.Range{to(5, 6), to(5, 6)}, Readings: []api.Reading{count(1, 9, 9)}}, api.ErrMany}, // it has no truth, either
		{plain(5, 6, count(1, 9, 9)), api.ErrAgainst},
		{plain(5, 6, count(20, 0, 0), count(20, 2, 2)), api.ErrAgainst},
		{plain(5, 6, count(20, 1, 1)), api.OK},
	}
}

// P11.1: the ear of an entry is valid, is of one tongue, and has a truth; of its errors the first one is returned.
func TestCheckEars(t *testing.T) {
	for i, c := range wrongEars() {
		for entry := range api.MaxEntries {
			r := of(1, 0, to(0, 0), slices.Repeat([]api.Tuned{off(0, 0, 0)}, api.MaxEntries)...)
			r.Entries[entry].Ear = c.ear
			if e := hand.Check(r); e != c.want {
				t.Error(i, entry, e)
			}
			r.Entries[entry].Due = 0
			if e := hand.Check(r); e != api.ErrValue {
				t.Error(i, entry, e)
			}
		}
	}
}

// change is a change of a roster, and the error that is due to it.
type change struct {
	name string
	make func(*api.Roster)
	want api.Errno
}

// setRosterR returns the roster R with settings.
func setRosterR() api.Roster {
	return setRight(rosterR(), api.Setting{Hand: 1, Day: 3}, api.Setting{Hand: 0, Day: 60})
}

// changes returns changes of this roster in the order in which the chapter names their errors.
func changes() []change {
	list := []change{
		{"hands", func(r *api.Roster) { r.Hands = 5 }, api.ErrValue},
		{"skill", func(r *api.Roster) { r.Skill = 10 }, api.ErrValue},
		{"drift", func(r *api.Roster) { r.Drift.Max = 6 }, api.ErrValue},
		{"order", func(r *api.Roster) { r.Drift.Min = r.Drift.Max + 1 }, api.ErrOrder},
		{"settings", func(r *api.Roster) { r.Sets = append(r.Sets, make([]api.Setting, 3)...) }, api.ErrMany},
	}
	for i := range setRosterR().Sets {
		list = append(list,
			change{"set hand", func(r *api.Roster) { r.Sets[i].Hand = 9 }, api.ErrUnknown},
			change{"set day", func(r *api.Roster) { r.Sets[i].Day = -1 }, api.ErrValue},
		)
	}
	list = append(list, change{"entries", func(r *api.Roster) { r.Entries = append(r.Entries, make([]api.Tuned, 3)...) }, api.ErrMany})
	for i := range setRosterR().Entries {
		list = append(list,
			change{"day", func(r *api.Roster) { r.Entries[i].Day = 61 }, api.ErrValue},
			change{"hand", func(r *api.Roster) { r.Entries[i].Hand = -2 }, api.ErrUnknown},
			change{"due", func(r *api.Roster) { r.Entries[i].Due = 0 }, api.ErrValue},
			change{"slack", func(r *api.Roster) { r.Entries[i].Ear.Slack = -1 }, api.ErrValue},
			change{"reading", func(r *api.Roster) { r.Entries[i].Ear.Readings = []api.Reading{{Kind: 9}} }, api.ErrKind},
			change{"tongues", func(r *api.Roster) {
				r.Entries[i].Ear.Tones = append(r.Entries[i].Ear.Tones, to(1, 1))
			}, api.ErrMany},
			change{"truth", func(r *api.Roster) {
				if ear := &r.Entries[i].Ear; len(ear.Readings) == 0 {
					ear.Readings = []api.Reading{count(1, 0, 0)}
				}
			}, api.ErrAgainst},
		)
	}
	return list
}

// P11.1, R1: of two errors of a roster the one that the chapter names first is returned, setting by setting, then entry by entry.
func TestCheckOrder(t *testing.T) {
	list := changes()
	for i, one := range list {
		for _, other := range list[i:] {
			both := setRosterR()
			other.make(&both)
			one.make(&both)
			if e := hand.Check(both); e != one.want {
				t.Error(one.name, "and", other.name, e)
			}
		}
	}
}

// checkInvalid calls all functions with a roster that is not valid: they return this error, ahead of that of any other argument, and nothing else.
func checkInvalid(t *testing.T, r api.Roster, want api.Errno) {
	t.Helper()
	checkNothing(t, r, want)
	deviations, e1 := hand.Deviations(r)
	explains, e2 := hand.Explains(r, []int{9, 1})
	rates, e3 := hand.Rates(r, -1)
	tuners, e4 := hand.Tuners(r, -1)
	errors, e5 := hand.Errors(r, -1, -1)
	tones, e6 := hand.Test(r, -1, -1, 0)
	day, e7 := hand.Trusted(r, -1, -1)
	longer, e8 := hand.With(r, api.Tuned{Day: -1, Hand: -2})
	text, e9 := hand.Write(r)
	if all := []api.Errno{e1, e2, e3, e4, e5, e6, e7, e8, e9}; !slices.Equal(all, slices.Repeat([]api.Errno{want}, 9)) {
		t.Error(r, all, want)
	}
	if len(deviations)+len(rates)+len(tuners)+len(text)+day > 0 || explains || errors != to(0, 0) || tones != to(0, 0) || !isZero(longer) {
		t.Error(r, deviations, explains, rates, tuners, errors, tones, day, longer, text)
	}
}

// P11.1 to P11.6, R1, R3: the error of the roster comes ahead of all others, and with an error there is no other result.
func TestErrorsOfRosters(t *testing.T) {
	for _, c := range changes() {
		r := setRosterR()
		c.make(&r)
		checkInvalid(t, r, c.want)
	}
	for _, c := range wrongEars() {
		if c.want != api.OK {
			checkInvalid(t, with(rosterR(), off(0, 0, 0), api.Tuned{Due: 5, Ear: c.ear}), c.want)
		}
	}
}

// P11.2 to P11.5, R1, R3: without a truth there is ErrNone, and no other result; but deviations and texts there are, and no hands explain it.
func TestErrorsOfNothing(t *testing.T) {
	for _, r := range []api.Roster{
		rosterX(),
		of(1, 3, to(-5, 5), off(0, 0, 4)),   // nobody is off on the day 0
		of(1, 3, to(-5, 5), off(10, 0, 54)), // the greatest error is 50
		of(1, 0, to(2, 5), off(9, 0, 9)),    // no hand drifts so slowly
		of(1, 0, to(0, 0), off(9, 0, 9)),    // no hand drifts at all
		of(2, 0, to(0, 5), off(9, nobody, 9), off(9, nobody, 18), off(9, nobody, 27)), // two hands have two rates
		of(2, 0, to(0, 5), off(9, 0, 9), off(9, 0, 0), off(9, 1, 0)),
	} {
		checkNothing(t, r, api.ErrNone)
		if longer, e := hand.With(with(r, r.Entries[:min(len(r.Entries), 4)]...), off(0, 0, 0)); e != api.ErrNone || !isZero(longer) {
			t.Error(r, longer, e)
		}
		for _, list := range subsets(r.Hands) {
			if must[bool](t)(hand.Explains(r, list)) {
				t.Error(r, list)
			}
		}
		if list := must[[]api.Range](t)(hand.Deviations(r)); len(list) != len(r.Entries) {
			t.Error(r, list)
		}
		must[string](t)(hand.Write(r))
	}
}

// P11.3, P11.4, R1, R3: hands, entries, days, tones and limits have their bounds, which are looked at in this order, ahead of all that is said of truths.
func TestErrorsOfNumbers(t *testing.T) {
	for _, r := range []api.Roster{rosterR(), rosterX(), of(4, 0, to(0, 5)), of(1, 9, to(-5, 0), off(0, 0, 10))} {
		_, none := hand.Fewest(r)
		for _, n := range extremes {
			_, e1 := hand.Rates(r, n)
			if want := firstOf(known(n, r.Hands), none); e1 != want && (want != api.OK || e1 != api.ErrNone) {
				t.Error(r, n, e1)
			}
			list, e2 := hand.Tuners(r, n)
			if want := firstOf(known(n, len(r.Entries)), none); e2 != want || e2 != api.OK && len(list) > 0 {
				t.Error(r, n, list, e2)
			}
			for _, m := range extremes {
				errors, e3 := hand.Errors(r, n, m)
				if e3 != firstOf(known(n, r.Hands), bounded(m, 0, 60), none) || e3 != api.OK && errors != to(0, 0) {
					t.Error(r, n, m, errors, e3)
				}
				day, e4 := hand.Trusted(r, n, m)
				if e4 != firstOf(known(n, r.Hands), no(m < 0, api.ErrValue), none) || e4 != api.OK && day != 0 {
					t.Error(r, n, m, day, e4)
				}
				for _, which := range []int{-1, 0, 9} {
					tones, e5 := hand.Test(r, which, n, m)
					if e5 != firstOf(known(which, r.Hands), bounded(n, 0, 60), bounded(m, 1, 100000), none) || e5 != api.OK && tones != to(0, 0) {
						t.Error(r, which, n, m, tones, e5)
					}
				}
			}
		}
	}
}

// P11.2, R1, R3: a list of hands is looked at hand by hand.
func TestErrorsOfHands(t *testing.T) {
	lists := append(subsets(4), [][]int{{1, 0}, {0, 0}, {1, 1}, {0, 1, 1}, {0, 2, 1}, {1, 0, 9}, {0, 9, 1}, {9, 9}, {2, 1, -1}, {-1, 0}, {0, -1}, slices.Repeat([]int{0}, 20), slices.Repeat([]int{1}, 2000)}...)
	for _, n := range extremes {
		lists = append(lists, []int{n}, []int{0, n}, []int{1, n, 0})
	}
	for _, r := range []api.Roster{rosterR(), rosterX(), of(4, 0, to(0, 5)), of(1, 0, to(0, 0))} {
		for _, list := range lists {
			want := api.OK
			for i, which := range list {
				if want == api.OK {
					want = firstOf(known(which, r.Hands), no(i > 0 && which <= list[max(i, 1)-1], api.ErrOrder))
				}
			}
			if is, e := hand.Explains(r, list); e != want || is && e != api.OK {
				t.Error(r, list, is, e)
			}
		}
	}
}

// P11.5, R1, R3: With returns ErrMany, then the error of the entry, then ErrNone.
func TestErrorsOfWith(t *testing.T) {
	full := with(rosterR(), slices.Repeat(rosterR().Entries[:1], api.MaxEntries)...)
	wrong := []struct {
		t    api.Tuned
		want api.Errno
	}{
		{tuned(-1, 9, 0, 6, 5), api.ErrValue},
		{tuned(61, 0, 5, 5, 6), api.ErrValue},
		{tuned(5, 2, 0, 6, 5), api.ErrUnknown},
		{tuned(5, -2, 5, 5, 6), api.ErrUnknown},
		{tuned(5, 0, 0, 6, 5), api.ErrValue},
		{tuned(5, nobody, 100001, 5, 6), api.ErrValue},
		{tuned(5, 0, 5, 6, 5), api.ErrOrder},
	}
	for _, c := range wrongEars() {
		if c.want != api.OK {
			wrong = append(wrong, struct {
				t    api.Tuned
				want api.Errno
			}{api.Tuned{Day: 5, Due: 5, Ear: c.ear}, c.want})
		}
	}
	for i, c := range wrong {
		for _, r := range []api.Roster{rosterR(), rosterX(), of(2, 0, to(0, 0))} {
			if longer, e := hand.With(r, c.t); e != c.want || !isZero(longer) {
				t.Error(i, longer, e)
			}
		}
		if longer, e := hand.With(full, c.t); e != api.ErrMany || !isZero(longer) {
			t.Error(i, longer, e)
		}
	}
	for i, c := range []struct {
		t    api.Tuned
		want api.Errno
	}{
		{tuned(5, 0, 44000, 44000, 44000), api.ErrNone},
		{tuned(10, 1, 44000, 43999, 44000), api.OK},
		{tuned(10, nobody, 44000, 44040, 44060), api.ErrNone},
		{tuned(10, nobody, 44000, 44023, 44023), api.OK},
		{tuned(10, nobody, 44000, 44024, 44024), api.ErrNone},
		{tuned(10, 1, 1, 1, 1), api.OK},
		{tuned(0, 1, 1, 4, 4), api.OK},
		{tuned(0, 1, 1, 5, 5), api.ErrNone},
	} {
		longer, e := hand.With(rosterR(), c.t)
		if e != c.want || e == api.OK && !equal(longer, adding(rosterR(), c.t)) || e != api.OK && !isZero(longer) {
			t.Error(i, longer, e)
		}
	}
	for n := range api.MaxEntries {
		r := with(full, full.Entries[:n]...)
		if longer, e := hand.With(r, full.Entries[0]); e != api.OK || !equal(longer, adding(r, full.Entries[0])) {
			t.Error(n, longer, e)
		}
	}
}

// P11.1: deviations are those of all tones that are known to be possible, and may be below 0.
func TestDeviations(t *testing.T) {
	slack := plain(990, 1010, count(10, 100, 100))
	slack.Slack = 1
	r := of(1, 9, to(0, 0),
		tuned(60, nobody, 1, 1, 21),
		tuned(0, 0, api.MaxTone, 1, 1),
		api.Tuned{Due: 1000, Ear: plain(990, 1010, count(20, 200, 200))},
		api.Tuned{Due: 998, Ear: plain(990, 1010, count(20, 200, 200), count(10, 99, 99))},
		api.Tuned{Due: 1, Ear: slack})
	if list := must[[]api.Range](t)(hand.Deviations(r)); !slices.Equal(list, []api.Range{to(0, 20), to(-99999, -99999), to(-4, 4), to(-2, 1), to(989, 1009)}) {
		t.Error(list)
	}
	if list := must[[]api.Range](t)(hand.Deviations(of(1, 0, to(0, 0)))); len(list) > 0 {
		t.Error(list)
	}
}
