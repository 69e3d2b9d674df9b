package hand_test

import (
	"slices"
	"testing"

	"musette/api"
	"musette/hand"
)

// checkNothing calls all functions that need a truth, which return this error, and then nothing else.
func checkNothing(t *testing.T, r api.Roster, want api.Errno) {
	t.Helper()
	lists, e1 := hand.Fewest(r)
	verdicts, e2 := hand.Convicts(r)
	rates, e3 := hand.Rates(r, 0)
	errors, e4 := hand.Errors(r, 0, 5)
	tones, e5 := hand.Test(r, 0, 5, 7)
	day, e6 := hand.Trusted(r, 0, 9)
	which, left, e7 := hand.Next(r)
	if all := []api.Errno{e1, e2, e3, e4, e5, e6, e7}; !slices.Equal(all, slices.Repeat([]api.Errno{want}, 7)) {
		t.Error(r, all, want)
	}
	if len(lists)+len(verdicts)+len(rates) > 0 || errors != to(0, 0) || tones != to(0, 0) || day != 0 || which != 0 || left != 0 {
		t.Error(r, lists, verdicts, rates, errors, tones, day, which, left)
	}
	for entry := range r.Entries {
		if list, e := hand.Tuners(r, entry); e != want || len(list) > 0 {
			t.Error(r, entry, list, e)
		}
	}
}

// checkLists ends the test if other lists of hands are said to drift than do so in the truths of a roster.
func checkLists(t *testing.T, r api.Roster, all, found []truths) {
	t.Helper()
	for _, list := range subsets(r.Hands) {
		want := slices.ContainsFunc(all, func(x truths) bool { return slices.Equal(x.drifts, list) })
		if is := must[bool](t)(hand.Explains(r, list)); is != want {
			t.Fatal(r, list, is)
		}
	}
	if len(found) == 0 {
		checkNothing(t, r, api.ErrNone)
		return
	}
	lists := listsOf(found)
	if l := must[[][]int](t)(hand.Fewest(r)); !same(l, lists) {
		t.Fatal(r, l, lists)
	}
	var verdicts []int
	best, least := 0, len(lists)+1
	for which := range r.Hands {
		having := 0
		for _, list := range lists {
			if slices.Contains(list, which) {
				having++
			}
		}
		verdicts = append(verdicts, verdictOf(having, len(lists)))
		if left := max(having, len(lists)-having); left < least {
			best, least = which, left
		}
	}
	if v := must[[]int](t)(hand.Convicts(r)); !slices.Equal(v, verdicts) {
		t.Fatal(r, v, verdicts)
	}
	if which, left, e := hand.Next(r); which != best || left != least || e != api.OK {
		t.Fatal(r, which, left, e, best, least)
	}
}

// checkHand ends the test if something other is said of a hand than all explanations say.
func checkHand(t *testing.T, r api.Roster, which int, found []truths) {
	t.Helper()
	want := numbersOf(found, func(x truths) []int {
		if !slices.Contains(x.drifts, which) {
			return nil
		}
		return []int{x.rates[which]}
	})
	if list, e := hand.Rates(r, which); !slices.Equal(list, want) || e != no(len(want) == 0, api.ErrNone) {
		t.Fatal(r, which, list, e, want)
	}
	var days []api.Range
	for day := range api.MaxTuneDay + 1 {
		offs := ends(numbersOf(found, func(x truths) []int { return []int{errorOf(r, which, x.rates[which], day)} }))
		days = append(days, offs)
		if day%7 > 0 && day != api.MaxTuneDay {
			continue
		}
		if got := must[api.Range](t)(hand.Errors(r, which, day)); got != offs {
			t.Fatal(r, which, day, got, offs)
		}
		const due = 44000
		if got := must[api.Range](t)(hand.Test(r, which, day, due)); got != to(due+offs.Min-r.Skill, due+offs.Max+r.Skill) {
			t.Fatal(r, which, day, got, offs)
		}
	}
	for _, limit := range []int{0, 2, 20, 299, 300} {
		trusted := 0
		for _, s := range r.Sets {
			if s.Hand == which {
				trusted = max(trusted, s.Day)
			}
		}
		for trusted < api.MaxTuneDay && max(-days[trusted+1].Min, days[trusted+1].Max) <= limit {
			trusted++
		}
		if day := must[int](t)(hand.Trusted(r, which, limit)); day != trusted {
			t.Fatal(r, which, limit, day, trusted)
		}
	}
}

// checkEntry ends the test if something other is said of an entry than all explanations say.
func checkEntry(t *testing.T, r api.Roster, entry int, found []truths) {
	t.Helper()
	want := numbersOf(found, func(x truths) []int {
		var tuners []int
		for _, o := range x.options[entry] {
			tuners = append(tuners, o.tuner)
		}
		return tuners
	})
	if list := must[[]int](t)(hand.Tuners(r, entry)); !slices.Equal(list, want) {
		t.Fatal(r, entry, list, want)
	}
}

// deviationsOf returns the deviations of all entries: all tones are gone through.
func deviationsOf(r api.Roster) []api.Range {
	var list []api.Range
	for _, t := range r.Entries {
		var deviations []int
		for tone := t.Ear.Tones[0].Min; tone <= t.Ear.Tones[0].Max; tone++ {
			if hears(t.Ear, tone) {
				deviations = append(deviations, tone-t.Due)
			}
		}
		list = append(list, ends(deviations))
	}
	return list
}

// P11.1 to P11.5, P11.8: what is said of a roster is just what all its explanations say, which are found by all rates, tuners and tones.
func TestAll(t *testing.T) {
	d := dice(1)
	met := map[int]int{}
	for range 1500 {
		r := d.roster()
		all, found := truthsOf(r), explanationsOf(r)
		if list := must[[]api.Range](t)(hand.Deviations(r)); !slices.Equal(list, deviationsOf(r)) {
			t.Fatal(r, list)
		}
		checkLists(t, r, all, found)
		if len(found) == 0 {
			met[-1]++
			continue
		}
		met[len(found[0].drifts)]++
		for which := range r.Hands {
			checkHand(t, r, which, found)
		}
		for entry := range r.Entries {
			checkEntry(t, r, entry, found)
		}
	}
	if min(met[-1], met[0], met[1], met[2]) < 50 || met[3] < 5 {
		t.Error("too rare", met)
	}
}

// P11.5, P11.8: an entry more is taken just if there is a truth with it, and is then the last one.
func TestWithAll(t *testing.T) {
	d := dice(2)
	met := map[bool]int{}
	for range 2000 {
		r := d.roster()
		x, _, _ := d.entry(r, make([]int, r.Hands))
		if d.often(2) {
			x.Due += d.roll(-min(20, x.Due-1), min(20, api.MaxTone-x.Due))
		}
		longer := adding(r, x)
		if len(longer.Entries) > api.MaxEntries {
			continue
		}
		there := len(truthsOf(longer)) > 0
		met[there]++
		next, e := hand.With(r, x)
		if e != no(!there, api.ErrNone) || there && !equal(next, longer) || !there && !isZero(next) {
			t.Fatal(r, x, next, e)
		}
	}
	if min(met[true], met[false]) < 200 {
		t.Error("too rare", met)
	}
}

// P11.2, P11.4: a hand is off by its rate for each day since it was set right, on the same day not at all, and not yet by a setting that comes later.
func TestSetRight(t *testing.T) {
	r := of(2, 0, to(1, 3), off(4, 0, 8)) // the rate of the hand 0 is 2
	for i, c := range []struct {
		sets []api.Setting
		day  int
		want int
	}{
		{nil, 0, 0}, {nil, 1, 2}, {nil, 60, 120},
		{[]api.Setting{{Hand: 0, Day: 5}}, 4, 8}, {[]api.Setting{{Hand: 0, Day: 5}}, 5, 0}, {[]api.Setting{{Hand: 0, Day: 5}}, 6, 2}, {[]api.Setting{{Hand: 0, Day: 5}}, 60, 110},
		{[]api.Setting{{Hand: 0, Day: 9}, {Hand: 0, Day: 6}, {Hand: 1, Day: 8}}, 5, 10},
		{[]api.Setting{{Hand: 0, Day: 9}, {Hand: 0, Day: 6}, {Hand: 1, Day: 8}}, 8, 4},
		{[]api.Setting{{Hand: 0, Day: 9}, {Hand: 0, Day: 6}, {Hand: 1, Day: 8}}, 10, 2},
		{[]api.Setting{{Hand: 0, Day: 6}, {Hand: 0, Day: 6}, {Hand: 0, Day: 60}}, 59, 106},
		{[]api.Setting{{Hand: 0, Day: 6}, {Hand: 0, Day: 6}, {Hand: 0, Day: 60}}, 60, 0},
		{[]api.Setting{{Hand: 0, Day: 0}, {Hand: 1, Day: 3}, {Hand: 1, Day: 2}}, 3, 6},
	} {
		if got := must[api.Range](t)(hand.Errors(setRight(r, c.sets...), 0, c.day)); got != to(c.want, c.want) {
			t.Error(i, got)
		}
	}
	for i, c := range []struct {
		sets []api.Setting
		want []int
		e    api.Errno
	}{
		{nil, []int{2}, api.OK},
		{[]api.Setting{{Hand: 0, Day: 0}}, []int{2}, api.OK},
		{[]api.Setting{{Hand: 0, Day: 1}}, nil, api.ErrNone},
		{[]api.Setting{{Hand: 1, Day: 1}}, []int{2}, api.OK},
		{[]api.Setting{{Hand: 0, Day: 4}}, nil, api.ErrNone},
		{[]api.Setting{{Hand: 0, Day: 5}}, []int{2}, api.OK},
	} {
		if list, e := hand.Rates(setRight(r, c.sets...), 0); !slices.Equal(list, c.want) || e != c.e {
			t.Error(i, list, e)
		}
	}
}

// P11.4: a hand is trusted from the last day on which it was set right, wherever that is among its settings; of limits of any size.
func TestTrustedDays(t *testing.T) {
	r := of(2, 0, to(-3, 3), off(4, 0, -8)) // the rate of the hand 0 is -2
	for i, c := range []struct {
		sets  []int
		limit int
		want  int
	}{
		{nil, 0, 0}, {nil, 1, 0}, {nil, 2, 1}, {nil, 3, 1}, {nil, 4, 2}, {nil, 118, 59}, {nil, 119, 59}, {nil, 120, 60}, {nil, 1 << 62, 60}, {nil, 1<<63 - 1, 60},
		{[]int{20, 10}, 0, 20}, {[]int{10, 20}, 0, 20}, {[]int{20, 10}, 4, 22}, {[]int{60, 10}, 0, 60}, {[]int{10, 60}, 9, 60}, {[]int{59}, 1, 59}, {[]int{59}, 2, 60}, {[]int{0, 0}, 2, 1},
	} {
		var sets []api.Setting
		for _, day := range c.sets {
			sets = append(sets, api.Setting{Hand: 0, Day: max(day, 0)})
		}
		moved := after(setRight(r, sets...), func(r *api.Roster) {
			if len(sets) > 0 {
				r.Sets = append(r.Sets, api.Setting{Hand: 1, Day: 40})
			}
		})
		if day := must[int](t)(hand.Trusted(moved, 0, c.limit)); day != c.want {
			t.Error(i, day)
		}
	}
	for _, sets := range [][]api.Setting{nil, {{Hand: 1, Day: 30}}, {{Hand: 0, Day: 60}}} {
		if day := must[int](t)(hand.Trusted(setRight(with(r), sets...), 1, 0)); day != api.MaxTuneDay {
			t.Error(sets, day)
		}
	}
}

// P11.4: a test tongue may be beyond the bounds of tones.
func TestBeyond(t *testing.T) {
	r := of(1, 9, to(-5, -5), off(60, 0, -300))
	for i, c := range []struct {
		due  int
		want api.Range
	}{{1, to(-308, -290)}, {300, to(-9, 9)}, {api.MaxTone, to(api.MaxTone-309, api.MaxTone-291)}} {
		if got := must[api.Range](t)(hand.Test(r, 0, 60, c.due)); got != c.want {
			t.Error(i, got)
		}
	}
	if got := must[api.Range](t)(hand.Test(of(1, 9, to(5, 5), off(60, 0, 300)), 0, 60, api.MaxTone)); got != to(api.MaxTone+291, api.MaxTone+309) {
		t.Error(got)
	}
}

// P11.2: if the rates are none but 0, no hand can drift; if 0 is among them, or not, nothing changes.
func TestDriftOfNothing(t *testing.T) {
	still := of(2, 1, to(0, 0), off(5, nobody, 1))
	for _, list := range subsets(2) {
		if is := must[bool](t)(hand.Explains(still, list)); is != (len(list) == 0) {
			t.Error(list, is)
		}
	}
	if lists := must[[][]int](t)(hand.Fewest(still)); !same(lists, [][]int{nil}) {
		t.Error(lists)
	}
	checkNothing(t, with(still, off(5, nobody, 2)), api.ErrNone)
	for least := range 3 { // a hand has to drift by 3 a day
		if list, e := hand.Rates(of(1, 1, to(least, 4), off(10, 0, 30)), 0); !slices.Equal(list, []int{3}) || e != api.OK {
			t.Error(least, list, e)
		}
	}
}

// P11.3: the hands that drift can be of an entry each, or both of one; who tuned what is found together.
func TestTogether(t *testing.T) {
	// Both hands drift; which of them made what is not known, but if the hand 0 made 20, the other one made -20.
	r := of(2, 0, to(-2, 2), off(10, nobody, 20), off(10, nobody, -20))
	for entry := range 2 {
		if list := must[[]int](t)(hand.Tuners(r, entry)); !slices.Equal(list, []int{0, 1}) {
			t.Error(entry, list)
		}
	}
	for which := range 2 {
		if list := must[[]int](t)(hand.Rates(r, which)); !slices.Equal(list, []int{-2, 2}) {
			t.Error(which, list)
		}
	}
	known := must[api.Roster](t)(hand.With(r, off(5, 1, 10)))
	for entry, want := range [][]int{{1}, {0}, {1}} {
		if list := must[[]int](t)(hand.Tuners(known, entry)); !slices.Equal(list, want) {
			t.Error(entry, list)
		}
	}
	for which, want := range [][]int{{-2}, {2}} {
		if list := must[[]int](t)(hand.Rates(known, which)); !slices.Equal(list, want) {
			t.Error(which, list)
		}
	}
}
