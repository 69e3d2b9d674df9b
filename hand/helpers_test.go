package hand_test

import (
	"slices"
	"testing"

	"musette/api"
)

const (
	always = api.Always
	never  = api.Never
	either = api.Either
	nobody = -1
)

// to returns a range.
func to(least, most int) api.Range { return api.Range{Min: least, Max: most} }

// count returns a ReadCount of the only tongue; plain returns an ear of one tongue.
func count(seconds, least, most int) api.Reading {
	return api.Reading{Kind: api.ReadCount, Seconds: seconds, Shown: to(least, most)}
}

func plain(least, most int, readings ...api.Reading) api.Ear {
	return api.Ear{Tones: []api.Range{to(least, most)}, Readings: readings}
}

// tuned returns an entry of a tongue without readings.
func tuned(day, by, due, least, most int) api.Tuned {
	return api.Tuned{Day: day, Hand: by, Due: due, Ear: plain(least, most)}
}

// off returns an entry of a tongue whose deviation is known, due at 1000.
func off(day, by, deviation int) api.Tuned {
	return tuned(day, by, 1000, 1000+deviation, 1000+deviation)
}

// of returns a roster without settings.
func of(hands, skill int, drift api.Range, entries ...api.Tuned) api.Roster {
	return api.Roster{Hands: hands, Skill: skill, Drift: drift, Entries: entries}
}

// rosterR and rosterV are the rosters of the chapter's examples.
func rosterR() api.Roster {
	return of(2, 3, to(-2, 2), tuned(5, 0, 44000, 44008, 44012), tuned(4, nobody, 44000, 43996, 43997), tuned(4, nobody, 44000, 44003, 44003))
}

func rosterV() api.Roster { return with(rosterR(), tuned(5, nobody, 44000, 44008, 44012)) }

// rosterX is the roster R, but without a truth, since the hand 0 is set right.
func rosterX() api.Roster { return setRight(rosterR(), api.Setting{Hand: 0, Day: 3}) }

// but returns the roster R after a change; after returns any roster after one.
func but(change func(r *api.Roster)) api.Roster { return after(rosterR(), change) }

func after(r api.Roster, change func(r *api.Roster)) api.Roster {
	r = copyOf(r)
	change(&r)
	return r
}

// with returns a roster with other entries, adding one with some entries more, setRight one with other settings.
func with(r api.Roster, entries ...api.Tuned) api.Roster {
	r.Entries = entries
	return r
}

func adding(r api.Roster, entries ...api.Tuned) api.Roster {
	return with(r, slices.Concat(r.Entries, entries)...)
}

func setRight(r api.Roster, sets ...api.Setting) api.Roster {
	r.Sets = sets
	return r
}

// copyOf returns a roster that shares no memory with the first one.
func copyOf(r api.Roster) api.Roster {
	r.Sets, r.Entries = slices.Clone(r.Sets), slices.Clone(r.Entries)
	for i := range r.Entries {
		ear := &r.Entries[i].Ear
		ear.Tones, ear.Readings = slices.Clone(ear.Tones), slices.Clone(ear.Readings)
	}
	return r
}

// equal tells whether two rosters are the same, alike whether two entries are.
func equal(a, b api.Roster) bool {
	return a.Hands == b.Hands && a.Skill == b.Skill && a.Drift == b.Drift && slices.Equal(a.Sets, b.Sets) && slices.EqualFunc(a.Entries, b.Entries, alike)
}

func alike(a, b api.Tuned) bool {
	return a.Day == b.Day && a.Hand == b.Hand && a.Due == b.Due && a.Ear.Slack == b.Ear.Slack && slices.Equal(a.Ear.Tones, b.Ear.Tones) && slices.Equal(a.Ear.Readings, b.Ear.Readings)
}

// isZero tells whether a roster is the zero value, but for empty slices.
func isZero(r api.Roster) bool { return equal(r, api.Roster{}) }

// same tells whether two lists of lists are equal.
func same(a, b [][]int) bool { return slices.EqualFunc(a, b, slices.Equal) }

// must returns what takes a result without an error, and ends the test otherwise.
func must[T any](t *testing.T) func(result T, e api.Errno) T {
	return func(result T, e api.Errno) T {
		t.Helper()
		if e != api.OK {
			t.Fatal(result, e)
		}
		return result
	}
}

// option is by whom an entry was tuned, and the tone of its tongue.
type option struct{ tuner, tone int }

// truths is all truths with these rates of all hands (0: it does not drift): those that have one of its options of each entry.
type truths struct {
	drifts  []int
	rates   []int
	options [][]option
}

// truthsOf returns all truths of a roster, in the words of the chapter: all rates are gone through, and for each entry all hands and tones.
func truthsOf(r api.Roster) []truths {
	all := []truths{{}}
	for hand := range r.Hands {
		var longer []truths
		for _, x := range all {
			longer = append(longer, truths{drifts: x.drifts, rates: append(slices.Clone(x.rates), 0)})
			for rate := r.Drift.Min; rate <= r.Drift.Max; rate++ {
				if rate != 0 {
					longer = append(longer, truths{drifts: append(slices.Clone(x.drifts), hand), rates: append(slices.Clone(x.rates), rate)})
				}
			}
		}
		all = longer
	}
	var found []truths
search:
	for _, x := range all {
		for _, t := range r.Entries {
			options := optionsOf(r, t, x.rates)
			if len(options) == 0 {
				continue search
			}
			x.options = append(x.options, options)
		}
		found = append(found, x)
	}
	return found
}

// optionsOf returns all hands by which an entry can have been tuned, with all tones that its tongue can have then.
func optionsOf(r api.Roster, t api.Tuned, rates []int) []option {
	var options []option
	for hand := range r.Hands {
		if t.Hand != nobody && t.Hand != hand {
			continue
		}
		for tone := t.Ear.Tones[0].Min; tone <= t.Ear.Tones[0].Max; tone++ {
			if hears(t.Ear, tone) && apart(tone-t.Due, errorOf(r, hand, rates[hand], t.Day)) <= r.Skill {
				options = append(options, option{hand, tone})
			}
		}
	}
	return options
}

// hears tells whether all readings of an ear of one tongue are true of a tone.
func hears(ear api.Ear, tone int) bool {
	return !slices.ContainsFunc(ear.Readings, func(r api.Reading) bool {
		n := tone * r.Seconds
		return n <= 100*(r.Shown.Min-1-ear.Slack) || n >= 100*(r.Shown.Max+1+ear.Slack)
	})
}

// errorOf returns the error of a hand with a rate on a day.
func errorOf(r api.Roster, hand, rate, day int) int {
	for past := range day + 1 {
		if past == day || slices.Contains(r.Sets, api.Setting{Hand: hand, Day: day - past}) {
			return rate * past
		}
	}
	return 0
}

// apart returns by how much two numbers differ.
func apart(a, b int) int { return max(a-b, b-a) }

// explanationsOf returns the truths in which the fewest hands drift, those with lists that come first ahead of others.
func explanationsOf(r api.Roster) []truths {
	var found []truths
	for _, x := range truthsOf(r) {
		if len(found) > 0 && len(x.drifts) < len(found[0].drifts) {
			found = nil
		}
		if len(found) == 0 || len(x.drifts) == len(found[0].drifts) {
			found = append(found, x)
		}
	}
	slices.SortStableFunc(found, func(a, b truths) int { return slices.Compare(a.drifts, b.drifts) })
	return found
}

// listsOf returns all lists of the hands that drift in truths, which are in order.
func listsOf(list []truths) [][]int {
	var lists [][]int
	for _, x := range list {
		lists = append(lists, x.drifts)
	}
	return slices.CompactFunc(lists, slices.Equal)
}

// numbersOf returns all numbers that there are in truths, ascending.
func numbersOf(list []truths, of func(x truths) []int) []int {
	var numbers []int
	for _, x := range list {
		numbers = append(numbers, of(x)...)
	}
	slices.Sort(numbers)
	return slices.Compact(numbers)
}

// ends returns the range of some numbers.
func ends(numbers []int) api.Range { return to(slices.Min(numbers), slices.Max(numbers)) }

// dice gives numbers that look random but are the same in each run.
type dice uint64

// roll returns a number from least to most.
func (d *dice) roll(least, most int) int {
	*d = *d*6364136223846793005 + 1442695040888963407
	return least + int(uint64(*d)>>33)%(most-least+1)
}

// often tells once in so many times that something is so.
func (d *dice) often(times int) bool { return d.roll(1, times) == 1 }

// fate is what is true of a roster: the rate of each hand, by whom each entry was tuned, and the tone of its tongue.
type fate struct{ rates, tuners, tones []int }

// drifts returns the hands that drift.
func (f fate) drifts() []int {
	var drifts []int
	for hand, rate := range f.rates {
		if rate != 0 {
			drifts = append(drifts, hand)
		}
	}
	return drifts
}

// story returns a roster, and what is true of it.
func (d *dice) story() (api.Roster, fate) {
	least := d.roll(-api.MaxDrift, api.MaxDrift)
	r := of(d.roll(1, api.MaxHands), []int{0, 1, 2, 3, api.MaxSkill}[d.roll(0, 4)], to(least, min(api.MaxDrift, least+d.roll(0, 5))))
	for range d.roll(-4, api.MaxSets) {
		r.Sets = append(r.Sets, api.Setting{Hand: d.roll(0, r.Hands-1), Day: d.roll(0, api.MaxTuneDay)})
	}
	var f fate
	for range r.Hands {
		rate := 0
		if !d.often(3) {
			rate = d.roll(r.Drift.Min, r.Drift.Max)
		}
		f.rates = append(f.rates, rate)
	}
	for range min(d.roll(0, api.MaxEntries+2), api.MaxEntries) {
		t, by, tone := d.entry(r, f.rates)
		r.Entries, f.tuners, f.tones = append(r.Entries, t), append(f.tuners, by), append(f.tones, tone)
	}
	return r, f
}

// entry returns an entry of a roster whose hands have such rates, by whom it was tuned, and the tone of its tongue.
func (d *dice) entry(r api.Roster, rates []int) (t api.Tuned, by, tone int) {
	by, t.Day = d.roll(0, r.Hands-1), d.roll(0, 12)
	if d.often(4) {
		t.Day = d.roll(0, api.MaxTuneDay)
	}
	deviation := errorOf(r, by, rates[by], t.Day) + d.roll(-r.Skill, r.Skill)
	for t.Due == 0 || tone < 1 || tone > api.MaxTone {
		t.Due = []int{d.roll(1, 400), 44000, api.MaxTone - d.roll(0, 400)}[d.roll(0, 2)]
		tone = t.Due + deviation
	}
	t.Hand = by
	if d.often(3) {
		t.Hand = nobody
	}
	t.Ear = d.ear(tone)
	return t, by, tone
}

// ear returns an ear whose tongue can have a tone.
func (d *dice) ear(tone int) api.Ear {
	wide := []int{0, 2, 6}[d.roll(0, 2)]
	ear := plain(max(1, tone-d.roll(0, wide)), min(api.MaxTone, tone+d.roll(0, wide)))
	ear.Slack = max(0, d.roll(-3, api.MaxSlack))
	for range d.roll(-2, 2) {
		ear.Readings = append(ear.Readings, d.counted(ear.Slack, tone))
	}
	return ear
}

// counted returns a count that is true of a tone.
func (d *dice) counted(slack, tone int) api.Reading {
	for {
		seconds := d.roll(1, api.MaxSeconds)
		least := max(0, tone*seconds/100+d.roll(-2, 2))
		r := count(seconds, least, least+d.roll(0, 1))
		if hears(api.Ear{Slack: slack, Readings: []api.Reading{r}}, tone) && r.Shown.Max <= api.MaxShown {
			return r
		}
	}
}

// roster returns a roster that need not have a truth.
func (d *dice) roster() api.Roster {
	r, _ := d.story()
	if len(r.Entries) > 0 && d.often(3) {
		t := &r.Entries[d.roll(0, len(r.Entries)-1)]
		t.Day = d.roll(0, 20)
	}
	if len(r.Entries) > 0 && d.often(3) {
		t := &r.Entries[d.roll(0, len(r.Entries)-1)]
		t.Hand = d.roll(nobody, r.Hands-1)
	}
	return r
}

// verdictOf returns the verdict on what is so in so many of all cases.
func verdictOf(so, all int) int {
	switch so {
	case all:
		return always
	case 0:
		return never
	}
	return either
}

// inside tells whether a number is in a range.
func inside(n int, r api.Range) bool { return r.Min <= n && n <= r.Max }

// subsets returns all lists of so many hands, in lexicographic order.
func subsets(hands int) [][]int {
	var lists [][]int
	for bits := range 1 << hands {
		var list []int
		for hand := range hands {
			if bits>>hand&1 == 1 {
				list = append(list, hand)
			}
		}
		lists = append(lists, list)
	}
	slices.SortFunc(lists, slices.Compare)
	return lists
}
