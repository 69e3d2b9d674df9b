package hand_test

import (
	"slices"
	"testing"

	"musette/api"
	"musette/hand"
)

// tells tells whether a verdict may be given if something is so in a truth, or is not.
func tells(verdict int, so bool) bool {
	if so {
		return verdict != never
	}
	return verdict != always
}

// fewestOf returns all lists of Fewest, of which there may be none.
func fewestOf(t *testing.T, r api.Roster) [][]int {
	t.Helper()
	lists, e := hand.Fewest(r)
	if e != api.OK && e != api.ErrNone {
		t.Fatal(r, e)
	}
	return lists
}

// driftingIn returns how many hands drift at least, more than there can be if there is no truth.
func driftingIn(lists [][]int) int {
	if len(lists) == 0 {
		return api.MaxHands + 1
	}
	return len(lists[0])
}

// checkFate ends the test if what is said of an explanation does not allow what is true.
func checkFate(t *testing.T, d *dice, r api.Roster, f fate) {
	t.Helper()
	verdicts := must[[]int](t)(hand.Convicts(r))
	for which, rate := range f.rates {
		if !tells(verdicts[which], rate != 0) {
			t.Fatal(r, f, which, verdicts)
		}
		if rate != 0 && !slices.Contains(must[[]int](t)(hand.Rates(r, which)), rate) {
			t.Fatal(r, f, which)
		}
		day, due := d.roll(0, api.MaxTuneDay), d.roll(1, api.MaxTone)
		off := errorOf(r, which, rate, day)
		if !inside(off, must[api.Range](t)(hand.Errors(r, which, day))) {
			t.Fatal(r, f, which, day, off)
		}
		if tones := must[api.Range](t)(hand.Test(r, which, day, due)); !inside(due+off-r.Skill, tones) || !inside(due+off+r.Skill, tones) {
			t.Fatal(r, f, which, day, due, off, tones)
		}
	}
	for entry, by := range f.tuners {
		if !slices.Contains(must[[]int](t)(hand.Tuners(r, entry)), by) {
			t.Fatal(r, f, entry)
		}
	}
}

// P11.7: whatever hands truly drift, they can, and no explanation has more of them; if they are as few, all that is said allows what is so.
func TestTrue(t *testing.T) {
	d := dice(11)
	met := map[int]int{}
	for range 4000 {
		r, f := d.story()
		drifts := f.drifts()
		if !must[bool](t)(hand.Explains(r, drifts)) {
			t.Fatal(r, f)
		}
		lists := must[[][]int](t)(hand.Fewest(r))
		if driftingIn(lists) > len(drifts) {
			t.Fatal(r, f, lists)
		}
		deviations := must[[]api.Range](t)(hand.Deviations(r))
		for entry, tone := range f.tones {
			if !inside(tone-r.Entries[entry].Due, deviations[entry]) {
				t.Fatal(r, f, entry, deviations)
			}
		}
		if driftingIn(lists) == len(drifts) {
			met[len(drifts)]++
			checkFate(t, &d, r, f)
		}
	}
	if min(met[0], met[1], met[2]) < 100 {
		t.Error("too rare", met)
	}
}

// P11.9, P11.10: each list of Fewest explains, no shorter one does, nor any other one as long; a hand is convicted just if it is in each of them.
func TestFewest(t *testing.T) {
	d := dice(12)
	met := map[int]int{}
	for range 3000 {
		r := d.roster()
		lists := fewestOf(t, r)
		fewest := driftingIn(lists)
		var found [][]int
		for _, list := range subsets(r.Hands) {
			is := must[bool](t)(hand.Explains(r, list))
			if is && len(list) < fewest {
				t.Fatal(r, lists, list)
			}
			if is && len(list) == fewest {
				found = append(found, list)
			}
		}
		if !same(found, lists) {
			t.Fatal(r, lists, found)
		}
		met[len(lists)]++
		if len(lists) == 0 {
			continue
		}
		for which, verdict := range must[[]int](t)(hand.Convicts(r)) {
			if (verdict == always) != !slices.ContainsFunc(lists, func(list []int) bool { return !slices.Contains(list, which) }) {
				t.Fatal(r, lists, which, verdict)
			}
		}
	}
	if min(met[0], met[1], met[2], met[3]) < 20 {
		t.Error("too rare", met)
	}
}

// P11.10: without any entry nobody is convicted.
func TestNobody(t *testing.T) {
	d := dice(13)
	for range 200 {
		r, _ := d.story()
		r.Entries = nil
		verdicts := must[[]int](t)(hand.Convicts(r))
		if !slices.Equal(verdicts, slices.Repeat([]int{never}, r.Hands)) || !same(must[[][]int](t)(hand.Fewest(r)), [][]int{nil}) {
			t.Fatal(r, verdicts)
		}
	}
}

// P11.11: up to the day of Trusted the errors are within the limit, on the next one they may not be; with a greater limit no less is trusted.
func TestTrusted(t *testing.T) {
	d := dice(14)
	met := 0
	for range 400 {
		r, _ := d.story()
		for which := range r.Hands {
			from := 0
			for _, s := range r.Sets {
				if s.Hand == which {
					from = max(from, s.Day)
				}
			}
			before := 0
			for _, limit := range []int{0, d.roll(1, 9), d.roll(10, 60), d.roll(61, 300)} {
				trusted := must[int](t)(hand.Trusted(r, which, limit))
				if trusted < max(from, before) || trusted > api.MaxTuneDay {
					t.Fatal(r, which, limit, trusted, before)
				}
				for day := from; day <= min(trusted+1, api.MaxTuneDay); day++ {
					off := must[api.Range](t)(hand.Errors(r, which, day))
					if (max(-off.Min, off.Max) <= limit) != (day <= trusted) {
						t.Fatal(r, which, limit, trusted, day, off)
					}
				}
				if trusted < api.MaxTuneDay {
					met++
				}
				before = trusted
			}
		}
	}
	if met < 200 {
		t.Error("too rare", met)
	}
}

// P11.12: a test tongue that comes out as one of the ends of Test is explained by as few hands, one that is a step beyond them is not.
func TestTested(t *testing.T) {
	d := dice(15)
	met := 0
	for range 8000 {
		r, _ := d.story()
		if len(r.Entries) == api.MaxEntries {
			continue
		}
		fewest := driftingIn(fewestOf(t, r))
		which, day, due := d.roll(0, r.Hands-1), d.roll(0, api.MaxTuneDay), d.roll(320, api.MaxTone-320)
		tones := must[api.Range](t)(hand.Test(r, which, day, due))
		for _, end := range []int{tones.Min, tones.Max} {
			longer := must[api.Roster](t)(hand.With(r, tuned(day, which, due, end, end)))
			if number := driftingIn(fewestOf(t, longer)); number != fewest {
				t.Fatal(r, which, day, due, end, fewest, number)
			}
		}
		for _, beyond := range []int{tones.Min - 1, tones.Max + 1} {
			longer, e := hand.With(r, tuned(day, which, due, beyond, beyond))
			if e == api.OK {
				met++
			}
			if e != api.OK && e != api.ErrNone || e == api.OK && driftingIn(fewestOf(t, longer)) <= fewest {
				t.Fatal(r, which, day, due, beyond, fewest, e)
			}
		}
	}
	if met < 200 {
		t.Error("too rare", met)
	}
}

// P11.13: no hand is better to look at than that of Next.
func TestNext(t *testing.T) {
	d := dice(16)
	met := 0
	for range 3000 {
		r, _ := d.story()
		lists := fewestOf(t, r)
		which, left, e := hand.Next(r)
		if e != api.OK {
			t.Fatal(r, e)
		}
		for other := range r.Hands {
			var parts [2]int
			for _, list := range lists {
				if slices.Contains(list, other) {
					parts[0]++
				} else {
					parts[1]++
				}
			}
			n := slices.Max(parts[:])
			if n < left || n == left && other < which || other == which && n != left {
				t.Fatal(r, lists, which, left, other, n)
			}
		}
		if left < len(lists) {
			met++
		}
	}
	if met < 200 {
		t.Error("too rare", met)
	}
}

// contains tells whether each list of some is one of others.
func contains(others, lists [][]int) bool {
	for _, list := range lists {
		if !slices.ContainsFunc(others, func(other []int) bool { return slices.Equal(list, other) }) {
			return false
		}
	}
	return true
}

// checkNarrower ends the test unless as many hands drift as before, in no other lists, or more of them do, or there is no truth any more.
func checkNarrower(t *testing.T, before, after api.Roster) (more bool) {
	t.Helper()
	one, other := fewestOf(t, before), fewestOf(t, after)
	if driftingIn(other) < driftingIn(one) || driftingIn(other) == driftingIn(one) && !contains(one, other) {
		t.Fatal(before, after, one, other)
	}
	return driftingIn(other) > driftingIn(one)
}

// P11.14: an entry more never makes fewer hands drift; one whose tuner is known now adds no list unless more hands drift.
func TestAdded(t *testing.T) {
	d := dice(17)
	met := map[bool]int{}
	for range 3000 {
		r := d.roster()
		if len(r.Entries) == 0 {
			continue
		}
		at := d.roll(0, len(r.Entries)-1)
		fewer := after(r, func(r *api.Roster) { r.Entries = slices.Delete(r.Entries, at, at+1) })
		met[checkNarrower(t, fewer, r)]++
		unknown := after(r, func(r *api.Roster) { r.Entries[at].Hand = nobody })
		for which := range r.Hands {
			checkNarrower(t, unknown, after(r, func(r *api.Roster) { r.Entries[at].Hand = which }))
		}
	}
	if min(met[true], met[false]) < 200 {
		t.Error("too rare", met)
	}
}

// shuffled returns all numbers below one in any order.
func (d *dice) shuffled(below int) []int {
	var list []int
	for n := range below {
		list = append(list, n)
	}
	for i := range list {
		j := d.roll(i, below-1)
		list[i], list[j] = list[j], list[i]
	}
	return list
}

// moved returns a list whose items are at other places; renamed lists of items that have other names, in order.
func moved[T any](list []T, to []int) []T {
	other := make([]T, len(list))
	for i, item := range list {
		other[to[i]] = item
	}
	return other
}

func renamed(lists [][]int, names []int) [][]int {
	var others [][]int
	for _, list := range lists {
		var other []int
		for _, item := range list {
			other = append(other, names[item])
		}
		slices.Sort(other)
		others = append(others, other)
	}
	slices.SortFunc(others, slices.Compare[[]int])
	return others
}

// checkSame ends the test unless the same is said of two rosters of which hands and entries have other numbers, and all tones of the second one are so much higher.
func checkSame(t *testing.T, r, s api.Roster, hands, entries []int, higher int) {
	t.Helper()
	lists := fewestOf(t, s)
	if !same(renamed(fewestOf(t, r), hands), lists) {
		t.Fatal(r, s, lists)
	}
	for _, list := range subsets(r.Hands) {
		if must[bool](t)(hand.Explains(r, list)) != must[bool](t)(hand.Explains(s, renamed([][]int{list}, hands)[0])) {
			t.Fatal(r, s, list)
		}
	}
	if !slices.Equal(moved(must[[]api.Range](t)(hand.Deviations(r)), entries), must[[]api.Range](t)(hand.Deviations(s))) {
		t.Fatal(r, s)
	}
	if len(lists) == 0 {
		return
	}
	if !slices.Equal(moved(must[[]int](t)(hand.Convicts(r)), hands), must[[]int](t)(hand.Convicts(s))) {
		t.Fatal(r, s)
	}
	for entry := range r.Entries {
		if !same(renamed([][]int{must[[]int](t)(hand.Tuners(r, entry))}, hands), [][]int{must[[]int](t)(hand.Tuners(s, entries[entry]))}) {
			t.Fatal(r, s, entry)
		}
	}
	for one, other := range hands {
		rates, e := hand.Rates(r, one)
		if rates2, f := hand.Rates(s, other); !slices.Equal(rates, rates2) || e != f {
			t.Fatal(r, s, one, rates, rates2, e, f)
		}
		const day, limit, due = 17, 30, 44000
		if must[int](t)(hand.Trusted(r, one, limit)) != must[int](t)(hand.Trusted(s, other, limit)) || must[api.Range](t)(hand.Errors(r, one, day)) != must[api.Range](t)(hand.Errors(s, other, day)) {
			t.Fatal(r, s, one)
		}
		tones := must[api.Range](t)(hand.Test(r, one, day, due))
		if must[api.Range](t)(hand.Test(s, other, day, due+higher)) != to(tones.Min+higher, tones.Max+higher) {
			t.Fatal(r, s, one, tones)
		}
	}
	_, left, _ := hand.Next(r)
	if _, left2, _ := hand.Next(s); left != left2 {
		t.Fatal(r, s, left, left2)
	}
}

// P11.15: if hands have other numbers, or entries and settings come in another order, the same is said of them.
func TestRenamed(t *testing.T) {
	d := dice(18)
	for range 1500 {
		r := d.roster()
		hands, entries := d.shuffled(r.Hands), d.shuffled(len(r.Entries))
		s := after(r, func(s *api.Roster) {
			s.Entries, s.Sets = moved(s.Entries, entries), moved(s.Sets, d.shuffled(len(s.Sets)))
			for i := range s.Entries {
				if x := &s.Entries[i]; x.Hand != nobody {
					x.Hand = hands[x.Hand]
				}
			}
			for i := range s.Sets {
				s.Sets[i].Hand = hands[s.Sets[i].Hand]
			}
		})
		checkSame(t, r, s, hands, entries, 0)
	}
}

// P11.15: if all tones are so much higher, all that was counted, too, and what is due, nothing changes but that.
func TestHigher(t *testing.T) {
	d := dice(19)
	for range 1000 {
		r := d.roster()
		hertz := d.roll(1, 20)
		s := after(r, func(s *api.Roster) {
			for i := range s.Entries {
				s.Entries[i] = raised(s.Entries[i], hertz)
			}
		})
		if hand.Check(s) != api.OK {
			continue // a tone is too high then
		}
		same := d.shuffled(api.MaxEntries)
		slices.Sort(same)
		checkSame(t, r, s, same[:r.Hands], same[:len(r.Entries)], 100*hertz)
	}
}

// raised returns an entry whose tongue was due, and is, so many hertz higher.
func raised(x api.Tuned, hertz int) api.Tuned {
	x.Due += 100 * hertz
	x.Ear.Tones, x.Ear.Readings = slices.Clone(x.Ear.Tones), slices.Clone(x.Ear.Readings)
	x.Ear.Tones[0].Min += 100 * hertz
	x.Ear.Tones[0].Max += 100 * hertz
	for i := range x.Ear.Readings {
		shown := &x.Ear.Readings[i].Shown
		shown.Min += hertz * x.Ear.Readings[i].Seconds
		shown.Max += hertz * x.Ear.Readings[i].Seconds
	}
	return x
}

// P11.16: what is written is read as it was, and what is read is written as it was.
func TestTextsStay(t *testing.T) {
	d := dice(20)
	const letters = "0123456789.-[],\nhandsetutclgr "
	read := 0
	for range 2000 {
		r := d.roster()
		text := must[string](t)(hand.Write(r))
		if back, n, e := hand.Read(text); !equal(back, r) || n != 0 || e != api.OK {
			t.Fatal(text, back, n, e)
		}
		for range 20 { // one letter is another one
			at, letter := d.roll(0, len(text)-1), d.roll(0, len(letters)-1)
			changed := text[:at] + letters[letter:letter+1] + text[at+1:]
			back, n, e := hand.Read(changed)
			if n > 0 && e != api.ErrText || e != api.OK && !isZero(back) {
				t.Fatal(changed, back, n, e)
			}
			if e == api.OK {
				read++
				if again, e := hand.Write(back); again != changed || e != api.OK {
					t.Fatal(changed, again, e)
				}
			}
		}
	}
	if read < 1000 {
		t.Error("too few texts were read", read)
	}
}
