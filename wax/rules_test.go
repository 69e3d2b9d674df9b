package wax_test

import (
	"math"
	"slices"
	"strings"
	"testing"

	"musette/api"
	"musette/wax"
)

// arguments is all that the functions of the package take.
type arguments struct {
	s                               api.Season
	joint, week, kind, from, to, by int
	wait                            int
	weeks                           []int
	r                               api.Seen
	text                            string
}

// results is all that comes out of the functions: values, and lists as they are.
type results struct {
	values  []any
	lists   [][]int
	ranges  [][]api.Range
	joints  [][]api.Joint
	reports [][]api.Seen
}

// keepList keeps a list, and its values.
func keepList[T any](r *results, lists *[][]T, list []T) {
	*lists = append(*lists, list)
	r.values = append(r.values, len(list))
	for _, item := range list {
		r.values = append(r.values, item)
	}
}

func (r *results) keep(values ...any) { r.values = append(r.values, values...) }

func (r *results) list(list []int, e api.Errno) {
	keepList(r, &r.lists, list)
	r.keep(e)
}

func (r *results) season(s api.Season, e api.Errno) {
	keepList(r, &r.ranges, s.Heats)
	keepList(r, &r.ranges, s.Damps)
	keepList(r, &r.joints, s.Joints)
	keepList(r, &r.reports, s.Reports)
	r.keep(e)
}

// callAll calls each function of the package with these arguments.
func callAll(a arguments) results {
	var r results
	r.keep(wax.Check(a.s))
	ranges, e := wax.Weather(a.s, a.kind)
	keepList(&r, &r.ranges, ranges)
	r.keep(e)
	r.list(wax.Fails(a.s, a.joint))
	r.list(wax.Causes(a.s, a.joint))
	r.list(wax.First(a.s))
	r.list(wax.Inspect(a.s, a.wait))
	r.list(wax.Wrong(a.s))
	failed, e := wax.Failed(a.s, a.joint, a.week)
	sound, x := wax.Sound(a.s, a.week)
	r.keep(failed, e, sound, x)
	unseen, e := wax.Unseen(a.s, a.weeks)
	margin, x := wax.Margin(a.s, a.joint, a.week)
	r.keep(unseen, e, margin, x)
	r.season(wax.Harder(a.s, a.kind, a.from, a.to, a.by))
	r.season(wax.With(a.s, a.r))
	text, e := wax.Write(a.s)
	s, line, x := wax.Read(a.text)
	r.keep(text, e, line)
	r.season(s, x)
	return r
}

// wild returns a season in which something is anything.
func wild(field, a, b int) api.Season {
	w, r := seasonT(), to(a, b)
	switch field {
	case 0:
		w.Heats[1] = r
	case 1:
		w.Damps[2] = r
	case 2:
		w.Joints[0].High, w.Joints[1].Low = r, r
	case 3:
		w.Joints[1].Weeks = r
	case 4:
		w.Joints[0].Life = r
	case 5:
		w.Joints[1].Kind = a
	case 6:
		w.Reports = []api.Seen{seen(a, b, true), seen(b, a, false)}
	case 7:
		w.Heats, w.Damps = slices.Repeat([]api.Range{r}, 1000), slices.Repeat([]api.Range{r}, 1000)
	case 8:
		w.Joints = slices.Repeat([]api.Joint{{Kind: b, High: r}}, 1000)
	case 9:
		w.Reports = slices.Repeat([]api.Seen{seen(a, b, false)}, 1000)
	}
	return w
}

// P1, R5: whatever the arguments are, each function comes to an end and does not panic.
func TestAnyArguments(t *testing.T) {
	numbers := []int{math.MinInt, math.MinInt + 1, -51, -1, 0, 1, 2, 3, 7, 101, math.MaxInt - 1, math.MaxInt}
	for _, a := range numbers {
		for _, b := range numbers {
			for field := range 11 {
				s := wild(field, a, b)
				for _, weeks := range [][]int{nil, {a, b}, {0, a, b}, slices.Repeat([]int{a}, 1000)} {
					callAll(arguments{s: s, joint: a, week: b, kind: a, from: b, to: a, by: b, wait: a, weeks: weeks, r: seen(a, b, true), text: strings.Repeat("week ", field)})
				}
				callAll(arguments{s: s, joint: 1, week: 1, kind: 2, from: 0, to: 1, by: a, wait: 1, weeks: []int{1}, r: seen(1, 1, true), text: weekLine + "wax "})
			}
		}
	}
	for _, text := range []string{"\x00", "\xff\xfe\n", "week\n", " \n", "week  \n", "week \xff 1/1\n", "\n\n", springLine, weekLine + "wax / / / /\n", strings.Repeat(" ", 500), strings.Repeat("/", 500)} {
		callAll(arguments{text: text, weeks: make([]int, 10000)})
	}
}

// P1: the largest seasons come to an end, too.
func TestLargest(t *testing.T) {
	for _, kinds := range [][]int{{1, 1, 1}, {2, 2, 2}, {1, 2, 1}} {
		for _, high := range []api.Range{to(1, 3), to(33, 35), to(98, 100)} {
			for _, low := range []api.Range{to(-50, -48), to(0, 2)} {
				s := api.Season{Heats: slices.Repeat([]api.Range{to(0, 2)}, 6), Damps: slices.Repeat([]api.Range{to(0, 2)}, 6)}
				for i, kind := range kinds {
					s.Joints = append(s.Joints, api.Joint{Kind: kind, High: high, Low: low, Weeks: to(1, 6), Life: to(i, 9)})
				}
				for _, failed := range []bool{true, false} {
					s.Reports = []api.Seen{seen(0, 4, true), seen(1, 0, false), seen(1, 3, failed), seen(2, 4, failed), seen(2, 1, false)}
					text, _ := wax.Write(s)
					callAll(arguments{s: s, joint: 1, week: 0, kind: 1, from: 0, to: 5, by: 1, weeks: []int{5}, r: seen(0, 5, true), text: text})
				}
			}
		}
	}
}

// spare returns a list with room behind it, and the list with this room.
func spare[T any](list []T, behind T) (part, whole []T) {
	whole = append(slices.Clone(list), behind, behind, behind)
	return whole[:len(list)], whole
}

// some returns valid arguments.
func (d *dice) some() arguments {
	s := d.season(500)
	last := len(s.Heats) - 1
	a := arguments{s: s, joint: d.roll(0, len(s.Joints)), week: d.roll(0, last), kind: d.roll(1, 2), by: d.roll(-9, 9), wait: d.roll(0, 2)}
	a.from = d.roll(0, last)
	a.to = d.roll(a.from, last)
	for week := range s.Heats {
		if d.roll(0, 1) == 0 {
			a.weeks = append(a.weeks, week)
		}
	}
	a.r = seen(d.roll(0, len(s.Joints)), a.week, d.roll(0, 1) == 0)
	a.text, _ = wax.Write(d.season(1 << 30))
	return a
}

// R4: arguments are not changed, nor is what lies behind them in memory.
func TestArgumentsStay(t *testing.T) {
	d := dice(21)
	for range 600 {
		a := d.some()
		var whole api.Season
		a.s.Heats, whole.Heats = spare(a.s.Heats, to(77, 77))
		a.s.Damps, whole.Damps = spare(a.s.Damps, to(77, 77))
		a.s.Joints, whole.Joints = spare(a.s.Joints, waxen(77, 77, 77, 77))
		a.s.Reports, whole.Reports = spare(a.s.Reports, seen(77, 77, true))
		weeks, all := spare(a.weeks, 77)
		a.weeks = weeks
		before, want := copyOf(whole), slices.Clone(all)
		callAll(a)
		if !equal(whole, before) || !slices.Equal(all, want) {
			t.Fatal(a, whole, before, all)
		}
	}
}

// spoil changes all lists, and what lies behind them, too; no list may change with another one.
func spoil[T comparable](t *testing.T, lists [][]T, by T) {
	t.Helper()
	var copies [][]T
	for _, list := range lists {
		copies = append(copies, slices.Clone(list))
	}
	for i, list := range lists {
		if !slices.Equal(list, copies[i]) {
			t.Fatal("two lists share memory", i, list, copies[i])
		}
		whole := list[:cap(list)]
		for at := range whole {
			whole[at] = by
		}
	}
}

// R2, R4: nothing is kept, and results share no memory with arguments or with each other.
func TestResultsAreNew(t *testing.T) {
	d := dice(22)
	for range 600 {
		a := d.some()
		r := callAll(a)
		spoil(t, r.lists, -7)
		spoil(t, r.ranges, to(-7, -7))
		spoil(t, r.joints, waxen(-7, -7, -7, -7))
		spoil(t, r.reports, seen(-7, -7, true))
		if again := callAll(a); !slices.Equal(again.values, r.values) {
			t.Fatal(a, "a result shares memory")
		}
	}
}

// R4: a nil slice and an empty one are equal.
func TestEmptySlices(t *testing.T) {
	one := callAll(arguments{})
	two := callAll(arguments{s: api.Season{Heats: []api.Range{}, Damps: []api.Range{}, Joints: []api.Joint{}, Reports: []api.Seen{}}, weeks: []int{}})
	if !slices.Equal(one.values, two.values) {
		t.Error(one.values, two.values)
	}
	week := []api.Range{to(1, 2)}
	one = callAll(arguments{s: api.Season{Heats: week, Damps: week}, kind: 1})
	two = callAll(arguments{s: api.Season{Heats: week, Damps: week, Joints: []api.Joint{}, Reports: []api.Seen{}}, kind: 1, weeks: []int{}})
	if !slices.Equal(one.values, two.values) {
		t.Error(one.values, two.values)
	}
}

// R2, R6: the same call has the same result, whatever was called before, and in whichever order maps are gone through.
func TestSameResults(t *testing.T) {
	d := dice(23)
	var all []arguments
	var before [][]any
	for range 400 {
		a := d.some()
		all, before = append(all, a), append(before, callAll(a).values)
	}
	for i, a := range slices.Backward(all) {
		for range 3 {
			if again := callAll(a).values; !slices.Equal(again, before[i]) {
				t.Fatal(a, again, before[i])
			}
		}
	}
}
