package voice_test

import (
	"math"
	"slices"
	"strings"
	"testing"

	"musette/api"
	"musette/voice"
)

// arguments is all that the functions of the package take.
type arguments struct {
	b               api.Box
	s               api.Scale
	register        []int
	note, low, high int
	text            string
}

// results is all that comes out of the functions: values, and lists as they are.
type results struct {
	values []any
	lists  [][]int
	ranges [][]api.Range
	sounds [][]api.Sound
}

func (r *results) keep(values ...any) { r.values = append(r.values, values...) }

func (r *results) list(list []int, x api.Errno) {
	r.lists = append(r.lists, list)
	r.keep(len(list), x)
	for _, n := range list {
		r.keep(n)
	}
}

func (r *results) spans(list []api.Range, x api.Errno) {
	r.ranges = append(r.ranges, list)
	r.keep(len(list), x)
	for _, span := range list {
		r.keep(span)
	}
}

func (r *results) box(b api.Box, line int, x api.Errno) {
	r.keep(b.Law, b.Note, b.Tip, b.Root, b.File, b.Meter, line, x)
	for _, list := range [][]api.Sound{b.Lows, b.Highs} {
		r.sounds = append(r.sounds, list)
		r.keep(len(list))
		for _, s := range list {
			r.keep(s)
		}
	}
}

// callAll calls each function of the package with these arguments.
func callAll(a arguments) results {
	var r results
	r.keep(voice.Check(a.b), voice.CheckScale(a.s))
	due, x := voice.Due(a.b.Law, a.note)
	v, y := voice.Keeps(a.b, a.low, a.high)
	r.keep(due, x, v, y)
	r.spans(voice.Beat(a.b, a.low, a.high))
	table, x := voice.Pairs(a.b)
	r.keep(len(table), x)
	for _, list := range table {
		r.list(list, x)
	}
	r.list(voice.Match(a.b))
	r.list(voice.Short(a.b))
	most, x := voice.Most(a.b)
	j, y := voice.Job(a.b, a.low, a.high)
	r.keep(most, x, j.Tongue, j.File, j.Within, j.Meter)
	r.spans(j.Shifts, y)
	strokes, x := voice.Strokes(a.b, a.low, a.high)
	filed, sum, y := voice.Filed(a.b)
	r.keep(strokes, x, sum)
	r.list(filed, y)
	r.list(voice.Tremolo(a.s, a.register))
	span, x := voice.Span(a.s, a.register)
	note, row, y := voice.Bad(a.s, a.register)
	text, z := voice.Write(a.b)
	r.keep(span, x, note, row, y, text, z)
	r.box(voice.Read(a.text))
	return r
}

// wildBox returns a box in which something is anything, wildScale a scale.
func wildBox(field, a, b int) api.Box {
	w, r := boxB(), to(a, b)
	switch field {
	case 0:
		w.First, w.Step = a, b
	case 1:
		w.Span, w.Press = a, b
	case 2:
		w.Step, w.Note = a, b
	case 3:
		w.Lows[1] = sound(r, to(0, 0))
	case 4:
		w.Highs[2] = sound(to(0, 0), r)
	case 5:
		w.Lows = slices.Repeat([]api.Sound{sound(r, r)}, 1000)
	case 6:
		w.Highs = slices.Repeat([]api.Sound{sound(r, r)}, 1000)
	case 7:
		w.Tip, w.Root = r, r
	case 8:
		w.File = api.File{Up: r, Down: r, TipWear: r, RootWear: r, Least: a}
	case 9:
		w.Least, w.Meter = a, b
	}
	return w
}

func wildScale(field, a, b int) api.Scale {
	w, r := scaleS(), to(a, b)
	switch field {
	case 0:
		w.First, w.Step = a, b
	case 1:
		w.Span, w.Press = a, b
	case 2:
		w.Rows[2][1] = sound(r, r)
	case 3:
		w.Rows = slices.Repeat([][]api.Sound{{sound(r, r)}}, 1000)
	case 4:
		w.Rows[1] = slices.Repeat([]api.Sound{sound(r, r)}, 1000)
	case 5:
		w.Rows[0] = nil
	}
	return w
}

// P1, R5: whatever the arguments are, each function comes to an end and does not panic.
func TestAnyArguments(t *testing.T) {
	numbers := []int{math.MinInt, math.MinInt + 1, -31, -1, 0, 1, 2, 7, 31, 101, math.MaxInt - 1, math.MaxInt}
	for _, a := range numbers {
		for _, b := range numbers {
			for field := range 11 {
				for _, register := range [][]int{nil, {a, b}, {0, a, b}, slices.Repeat([]int{a}, 1000)} {
					callAll(arguments{b: wildBox(field, a, b), s: wildScale(field, a, b), register: register, note: b, low: a, high: b, text: strings.Repeat("law,", field)})
				}
				callAll(arguments{b: wildBox(field, a, b), s: wildScale(field, b, a), register: []int{0, 1, 2}, note: 3, low: 1, high: 2, text: lawLine + "low,"})
			}
		}
	}
	for _, text := range []string{"\x00", "\xff\xfe\n", "law\n", ",\n", "law,,\n", "law,\xff,1,1,1,1\n", "\n\n", fileLine, lawLine + "low,..,..\n", strings.Repeat(",", 500), strings.Repeat(".", 500)} {
		callAll(arguments{text: text, register: make([]int, 10000)})
	}
}

// P1: the largest boxes and scales come to an end, too, with narrow laws and with wide ones.
func TestLargest(t *testing.T) {
	wide := sound(to(-30, 30), to(-3, 3))
	for _, span := range []int{0, 3, 20} {
		for _, up := range []api.Range{to(0, 12), to(1, 3), to(12, 12)} {
			for _, low := range []api.Sound{wide, sound(to(-30, 0), to(-3, -1))} {
				b := api.Box{
					Law:  api.Law{First: 30, Span: span, Press: 3},
					Lows: slices.Repeat([]api.Sound{low}, 4), Highs: slices.Repeat([]api.Sound{wide}, 5),
					Tip: to(100, 100), Root: to(100, 100), File: api.File{Up: up, Down: up, TipWear: to(0, 12), RootWear: to(0, 12)}, Meter: 6,
				}
				s := api.Scale{Law: b.Law, Rows: slices.Repeat([][]api.Sound{slices.Repeat([]api.Sound{low}, 6)}, 4)}
				text, _ := voice.Write(b)
				callAll(arguments{b: b, s: s, register: []int{0, 1, 2, 3}, low: 3, high: 4, text: text})
			}
		}
	}
}

// spare returns a list with room behind it, and the list with this room.
func spare[T any](list []T, behind T) (part, whole []T) {
	whole = append(slices.Clone(list), behind, behind, behind)
	return whole[:len(list)], whole
}

// some returns valid arguments.
func (d *dice) some() arguments {
	a := arguments{b: d.box(), s: d.scale(6, 2), note: d.roll(0, 11)}
	a.register = d.set(len(a.s.Rows))
	a.low, a.high = d.roll(0, len(a.b.Lows)), d.roll(0, len(a.b.Highs))
	a.text, _ = voice.Write(d.box())
	return a
}

// R4: arguments are not changed, nor is what lies behind them in memory.
func TestArgumentsStay(t *testing.T) {
	d := dice(21)
	behind := flat(77, 77)
	for range 400 {
		a := d.some()
		var sounds, before [][]api.Sound
		watch := func(list *[]api.Sound) {
			part, whole := spare(*list, behind)
			*list = part
			sounds, before = append(sounds, whole), append(before, slices.Clone(whole))
		}
		watch(&a.b.Lows)
		watch(&a.b.Highs)
		for i := range a.s.Rows {
			watch(&a.s.Rows[i])
		}
		rows, allRows := spare(a.s.Rows, []api.Sound{behind})
		register, all := spare(a.register, 77)
		a.s.Rows, a.register = rows, register
		wantRows, want := copyOfScale(api.Scale{Rows: allRows}), slices.Clone(all)
		callAll(a)
		if !slices.EqualFunc(sounds, before, slices.Equal[[]api.Sound]) || !slices.EqualFunc(allRows, wantRows.Rows, slices.Equal[[]api.Sound]) || !slices.Equal(all, want) {
			t.Fatal(a, sounds, before)
		}
	}
}

// spoil changes all lists, and what lies behind them, too; no list may change with another one.
func spoil[T comparable](t *testing.T, lists [][]T, by T) {
	t.Helper()
	var copies [][]T
	for _, list := range lists {
		copies = append(copies, slices.Clone(list))
	}
	for i, list := range lists {
		if !slices.Equal(list, copies[i]) {
			t.Fatal("two lists share memory", i, list, copies[i])
		}
		whole := list[:cap(list)]
		for at := range whole {
			whole[at] = by
		}
	}
}

// R2, R4: nothing is kept, and results share no memory with arguments or with each other.
func TestResultsAreNew(t *testing.T) {
	d := dice(22)
	for range 400 {
		a := d.some()
		r := callAll(a)
		spoil(t, r.lists, -7)
		spoil(t, r.ranges, to(-7, -7))
		spoil(t, r.sounds, flat(-7, -7))
		if again := callAll(a); !slices.Equal(again.values, r.values) {
			t.Fatal(a, "a result shares memory")
		}
	}
}

// R4: a nil slice and an empty one are equal.
func TestEmptySlices(t *testing.T) {
	one := callAll(arguments{})
	two := callAll(arguments{b: api.Box{Lows: []api.Sound{}, Highs: []api.Sound{}}, s: api.Scale{Rows: [][]api.Sound{}}, register: []int{}})
	if !slices.Equal(one.values, two.values) {
		t.Error(one.values, two.values)
	}
	one = callAll(arguments{b: boxB(), s: api.Scale{Rows: make([][]api.Sound, 2)}, register: []int{0, 1}})
	two = callAll(arguments{b: boxB(), s: api.Scale{Rows: [][]api.Sound{{}, nil}}, register: []int{0, 1}})
	if !slices.Equal(one.values, two.values) {
		t.Error(one.values, two.values)
	}
}

// R2, R6: the same call has the same result, whatever was called before, and in whichever order goroutines run.
func TestSameResults(t *testing.T) {
	d := dice(23)
	var all []arguments
	var before [][]any
	for range 400 {
		a := d.some()
		all, before = append(all, a), append(before, callAll(a).values)
	}
	for i, a := range slices.Backward(all) {
		for range 3 {
			if again := callAll(a).values; !slices.Equal(again, before[i]) {
				t.Fatal(a, again, before[i])
			}
		}
	}
}
