package hand_test

import (
	"math"
	"slices"
	"strings"
	"testing"

	"musette/api"
	"musette/hand"
)

// arguments is all that the functions of the package take.
type arguments struct {
	r                             api.Roster
	t                             api.Tuned
	hands                         []int
	which, entry, day, due, limit int
	text                          string
}

// results is all that comes out of the functions: values, and lists as they are.
type results struct {
	values   []any
	lists    [][]int
	tables   [][][]int
	ranges   [][]api.Range
	sets     [][]api.Setting
	entries  [][]api.Tuned
	readings [][]api.Reading
}

func (r *results) keep(values ...any) { r.values = append(r.values, values...) }

// list keeps a list, and its values; table keeps a list of lists, spans keeps ranges.
func (r *results) list(list []int, e api.Errno) {
	r.lists = append(r.lists, list)
	r.keep(len(list), e)
	for _, n := range list {
		r.keep(n)
	}
}

func (r *results) table(table [][]int, e api.Errno) {
	r.tables = append(r.tables, table)
	r.keep(len(table), e)
	for _, list := range table {
		r.list(list, e)
	}
}

func (r *results) spans(list []api.Range, e api.Errno) {
	r.ranges = append(r.ranges, list)
	r.keep(len(list), e)
	for _, span := range list {
		r.keep(span)
	}
}

// roster keeps a roster.
func (r *results) roster(x api.Roster, e api.Errno) {
	r.sets, r.entries = append(r.sets, x.Sets), append(r.entries, x.Entries)
	r.keep(x.Hands, x.Skill, x.Drift, len(x.Sets), len(x.Entries), e)
	for _, s := range x.Sets {
		r.keep(s)
	}
	for _, t := range x.Entries {
		r.readings = append(r.readings, t.Ear.Readings)
		r.keep(t.Day, t.Hand, t.Due, t.Ear.Slack, len(t.Ear.Readings))
		r.spans(t.Ear.Tones, e)
		for _, reading := range t.Ear.Readings {
			r.keep(reading)
		}
	}
}

// callAll calls each function of the package with these arguments.
func callAll(a arguments) results {
	var r results
	r.keep(hand.Check(a.r))
	r.spans(hand.Deviations(a.r))
	is, e1 := hand.Explains(a.r, a.hands)
	r.table(hand.Fewest(a.r))
	r.list(hand.Convicts(a.r))
	r.list(hand.Rates(a.r, a.which))
	r.list(hand.Tuners(a.r, a.entry))
	errors, e2 := hand.Errors(a.r, a.which, a.day)
	tones, e3 := hand.Test(a.r, a.which, a.day, a.due)
	day, e4 := hand.Trusted(a.r, a.which, a.limit)
	which, left, e5 := hand.Next(a.r)
	r.keep(is, e1, errors, e2, tones, e3, day, e4, which, left, e5)
	r.roster(hand.With(a.r, a.t))
	text, e6 := hand.Write(a.r)
	x, line, e7 := hand.Read(a.text)
	r.keep(text, e6, line)
	r.roster(x, e7)
	return r
}

// wild returns arguments in which something is anything.
func wild(field, a, b int) arguments {
	x := arguments{r: setRosterR(), t: off(10, nobody, 3), hands: []int{0, 1}, which: 1, entry: 1, day: 9, due: 500, limit: 4}
	t := &x.r.Entries[1]
	switch field {
	case 0:
		x.r.Hands, x.r.Skill = a, b
	case 1:
		x.r.Drift = to(a, b)
	case 2:
		x.r.Sets[1] = api.Setting{Hand: a, Day: b}
	case 3:
		x.r.Sets = slices.Repeat([]api.Setting{{Hand: a, Day: b}}, 1000)
	case 4:
		t.Day, t.Hand = a, b
	case 5:
		t.Due, t.Ear.Slack = a, b
	case 6:
		t.Ear.Tones[0] = to(a, b)
	case 7:
		t.Ear.Readings = []api.Reading{{Kind: a, A: b, B: a, Seconds: b, Shown: to(a, b)}, count(b, a, b)}
	case 8:
		x.r.Entries, x.r.Hands = slices.Repeat(x.r.Entries, 1000), a
	case 9:
		x.hands = []int{a, b}
	case 10:
		x.which, x.entry, x.limit = a, a, b
	case 11:
		x.day, x.due, x.which = a, b, 0
	case 12:
		x.t.Day, x.t.Hand, x.t.Due = a, b, a
	case 13:
		x.t.Ear = plain(a, b, count(a, b, b))
	}
	return x
}

// P1, R5: whatever the arguments are, each function comes to an end and does not panic.
func TestAnyArguments(t *testing.T) {
	for _, a := range extremes {
		for _, b := range extremes {
			for field := range 15 {
				callAll(wild(field, a, b))
			}
		}
	}
	for _, text := range []string{"", "\x00", "\xff\xfe\n", "\n\n", "-", "..", hands, hands + "set\n", hands + "tuned\n", hands + entry, hands + entry + "\xff\n", hands + entry + heard, hands + "closed 1\n", "hands .. .. ..\n", strings.Repeat(entry, 60), strings.Repeat(heard, 150), strings.Repeat("\n", 900), strings.Repeat(" ", 900)} {
		callAll(arguments{r: rosterR(), text: text})
		callAll(arguments{text: text})
	}
}

// P1: the largest rosters come to an end, too, and long lists that are not valid.
func TestLargest(t *testing.T) {
	for _, by := range []int{nobody, 3} {
		for _, skill := range []int{0, api.MaxSkill} {
			for _, deviation := range []int{0, 23, 301, -3000} {
				r := after(largest(), func(r *api.Roster) {
					r.Sets, r.Skill = nil, skill
					for i := range r.Entries {
						r.Entries[i] = tuned(60, by, 50000, 50000+deviation*(1+i%2), 50020+deviation*(1+i%2))
						r.Entries[i].Ear.Readings = slices.Repeat([]api.Reading{count(1, 0, api.MaxShown)}, api.MaxReadings)
					}
				})
				callAll(arguments{r: r, t: off(60, nobody, 0), hands: []int{0, 1, 2, 3}, which: 3, entry: 4, day: 60, due: 5, limit: 299})
				callAll(arguments{r: with(r, r.Entries[:4]...), t: off(60, nobody, 0), which: 3, entry: 3, day: 60, due: 5, limit: math.MaxInt})
			}
		}
	}
	const many = 1 << 18
	callAll(arguments{r: of(1, 0, to(0, 0), make([]api.Tuned, many)...), hands: make([]int, many)})
	callAll(arguments{r: setRight(of(1, 0, to(0, 0)), make([]api.Setting, many)...), text: strings.Repeat("x", many)})
	callAll(arguments{r: of(1, 0, to(0, 0)), t: api.Tuned{Due: 1, Ear: api.Ear{Tones: make([]api.Range, many)}}, hands: make([]int, many)})
	callAll(arguments{r: of(1, 0, to(0, 0), api.Tuned{Due: 1, Ear: plain(1, 1, make([]api.Reading, many)...)})})
}

// spare returns a list with room behind it, and the list with this room.
func spare[T any](list []T, behind T) (part, whole []T) {
	whole = append(slices.Clone(list), behind, behind, behind)
	return whole[:len(list)], whole
}

// some returns valid arguments.
func (d *dice) some() arguments {
	r, f := d.story()
	r.Entries = r.Entries[:min(len(r.Entries), 4)]
	a := arguments{r: r, which: d.roll(0, r.Hands-1), entry: max(0, d.roll(-1, len(r.Entries)-1)), day: d.roll(0, api.MaxTuneDay), due: d.roll(1, api.MaxTone), limit: d.roll(0, 100)}
	a.t, _, _ = d.entry(r, f.rates)
	lists := subsets(r.Hands)
	a.hands = lists[d.roll(0, len(lists)-1)]
	other, _ := d.story()
	a.text, _ = hand.Write(other)
	return a
}

// keeper is lists with the room behind them, as they were and as they are.
type keeper[T any] struct{ before, now [][]T }

// spare returns a list with room behind it, and keeps both.
func (k *keeper[T]) spare(list []T, behind T) []T {
	part, whole := spare(list, behind)
	k.before, k.now = append(k.before, slices.Clone(whole)), append(k.now, whole)
	return part
}

// changed tells whether a list is not as it was.
func changed[T any](k keeper[T], equal func(a, b T) bool) bool {
	return !slices.EqualFunc(k.before, k.now, func(a, b []T) bool { return slices.EqualFunc(a, b, equal) })
}

// R4, R8: arguments are not changed, nor is what lies behind them in memory.
func TestArgumentsStay(t *testing.T) {
	d := dice(21)
	for range 500 {
		a := d.some()
		var lists keeper[int]
		var sets keeper[api.Setting]
		var tones keeper[api.Range]
		var readings keeper[api.Reading]
		var entries keeper[api.Tuned]
		room := func(ear *api.Ear) {
			ear.Tones, ear.Readings = tones.spare(ear.Tones, to(7, 7)), readings.spare(ear.Readings, count(7, 7, 7))
		}
		for i := range a.r.Entries {
			room(&a.r.Entries[i].Ear)
		}
		room(&a.t.Ear)
		a.r.Entries, a.r.Sets, a.hands = entries.spare(a.r.Entries, off(7, 7, 7)), sets.spare(a.r.Sets, api.Setting{Hand: 7, Day: 7}), lists.spare(a.hands, 7)
		callAll(a)
		if changed(lists, is) || changed(sets, is) || changed(tones, is) || changed(readings, is) || changed(entries, alike) {
			t.Fatal(a)
		}
	}
}

// spoil changes all lists, and what lies behind them, too; no list may change with another one.
func spoil[T any](t *testing.T, lists [][]T, by T, equal func(a, b T) bool) {
	t.Helper()
	var copies [][]T
	for _, list := range lists {
		copies = append(copies, slices.Clone(list))
	}
	for i, list := range lists {
		if !slices.EqualFunc(list, copies[i], equal) {
			t.Fatal("two lists share memory", i, list, copies[i])
		}
		whole := list[:cap(list)]
		for at := range whole {
			whole[at] = by
		}
	}
}

// is tells whether two values are equal.
func is[T comparable](a, b T) bool { return a == b }

// R2, R4: nothing is kept, and results share no memory with arguments or with each other.
func TestResultsAreNew(t *testing.T) {
	d := dice(22)
	met := 0
	for range 500 {
		a := d.some()
		a.r.Entries, a.r.Sets, a.hands = slices.Grow(a.r.Entries, 5), slices.Grow(a.r.Sets, 5), slices.Grow(a.hands, 5)
		r := callAll(a)
		met += len(r.readings)
		spoil(t, r.lists, -7, is)
		spoil(t, r.tables, nil, slices.Equal)
		spoil(t, r.ranges, to(-7, -7), is)
		spoil(t, r.sets, api.Setting{Hand: -7}, is)
		spoil(t, r.readings, api.Reading{Kind: -7}, is)
		spoil(t, r.entries, off(-7, -7, -7), func(a, b api.Tuned) bool { return a.Day == b.Day && a.Hand == b.Hand && a.Due == b.Due })
		if again := callAll(a); !slices.Equal(again.values, r.values) {
			t.Fatal(a, "a result shares memory")
		}
	}
	if met < 1000 {
		t.Error("too rare", met)
	}
}

// R4: a nil slice and an empty one are equal.
func TestEmptySlices(t *testing.T) {
	empty := api.Roster{Hands: 2, Sets: []api.Setting{}, Entries: []api.Tuned{}}
	bare, still := tuned(0, 0, 5, 5, 5), tuned(0, 0, 5, 5, 5)
	still.Ear.Readings = []api.Reading{}
	for i, pair := range [][2]arguments{
		{{}, {r: api.Roster{Sets: []api.Setting{}, Entries: []api.Tuned{}}, hands: []int{}}},
		{{r: of(2, 0, to(0, 0)), t: bare}, {r: empty, t: still, hands: []int{}}},
		{{r: of(2, 0, to(0, 0), bare)}, {r: with(empty, still), hands: []int{}}},
		{{r: of(2, 0, to(0, 0), api.Tuned{Due: 5})}, {r: with(empty, api.Tuned{Due: 5, Ear: api.Ear{Tones: []api.Range{}, Readings: []api.Reading{}}})}},
		{{r: rosterR()}, {r: setRight(rosterR(), []api.Setting{}...), hands: []int{}}},
	} {
		if one, two := callAll(pair[0]), callAll(pair[1]); !slices.Equal(one.values, two.values) {
			t.Error(i, one.values, two.values)
		}
	}
}

// R2, R6: the same call has the same result, whatever was called before, in whichever order maps are gone through, and whichever entry is checked first.
func TestSameResults(t *testing.T) {
	d := dice(23)
	var all []arguments
	var before [][]any
	for range 300 {
		a := d.some()
		if d.often(3) { // of several wrong entries the first one is named
			a.r = after(a.r, func(r *api.Roster) {
				for i := range r.Entries {
					r.Entries[i].Ear.Readings = append(r.Entries[i].Ear.Readings, api.Reading{Kind: 7 * d.roll(0, 1), A: 9})
				}
			})
		}
		all, before = append(all, a), append(before, callAll(a).values)
	}
	for i, a := range slices.Backward(all) {
		for range 3 {
			if again := callAll(a).values; !slices.Equal(again, before[i]) {
				t.Fatal(a, again, before[i])
			}
		}
	}
}

// R2, R6: functions that are called at the same time do not see each other.
func TestAtOnce(t *testing.T) {
	d := dice(24)
	for range 20 {
		a := d.some()
		want := callAll(a).values
		done := make(chan []any)
		for range 8 {
			go func() { done <- callAll(a).values }()
		}
		for range 8 {
			if got := <-done; !slices.Equal(got, want) {
				t.Fatal(a, got, want)
			}
		}
	}
}
