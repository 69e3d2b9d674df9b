package plate_test

import (
	"math"
	"slices"
	"strings"
	"testing"

	"musette/api"
	"musette/plate"
)

// arguments is all that the functions of the package take.
type arguments struct {
	c              api.Catalogue
	o              api.Old
	feature, value int
	text           string
}

// results is all that comes out of the functions: values, and lists as they are.
type results struct {
	values []any
	lists  [][]int
	tables [][][]int
	ranges [][]api.Range
	models [][]api.Model
}

func (r *results) keep(values ...any) { r.values = append(r.values, values...) }

// list keeps a list, and its values; table keeps a list of lists.
func (r *results) list(list []int, e api.Errno) {
	r.lists = append(r.lists, list)
	r.keep(len(list), e)
	for _, n := range list {
		r.keep(n)
	}
}

func (r *results) table(table [][]int, e api.Errno) {
	r.tables = append(r.tables, table)
	r.keep(len(table), e)
	for _, list := range table {
		r.list(list, e)
	}
}

// old keeps an instrument, catalogue a catalogue.
func (r *results) old(o api.Old, e api.Errno) {
	r.list(o.Seen, e)
	r.keep(o.Plate, o.Changed)
}

func (r *results) catalogue(c api.Catalogue, e api.Errno) {
	r.models = append(r.models, c.Models)
	r.keep(c.Features, len(c.Models), e)
	for _, m := range c.Models {
		r.table(m.Looks, e)
		r.ranges = append(r.ranges, m.Numbers)
		r.keep(m.First, len(m.Numbers))
		for _, n := range m.Numbers {
			r.keep(n)
		}
	}
}

// callAll calls each function of the package with these arguments.
func callAll(a arguments) results {
	var r results
	r.keep(plate.Check(a.c), plate.Valid(a.c, a.o))
	r.table(plate.Fits(a.c, a.o))
	r.list(plate.Models(a.c, a.o))
	model, e1 := plate.Model(a.c, a.o)
	years, e2 := plate.Years(a.c, a.o)
	numbers, e3 := plate.Numbers(a.c, a.o)
	r.keep(model, e1, years, e2, numbers, e3)
	r.list(plate.Known(a.c, a.o, a.feature))
	r.list(plate.Altered(a.c, a.o))
	least, e4 := plate.Least(a.c, a.o)
	is, e5 := plate.Forged(a.c, a.o)
	feature, left, e6 := plate.Next(a.c, a.o)
	decides, e7 := plate.Decides(a.c, a.o)
	r.keep(least, e4, is, e5, feature, left, e6, decides, e7)
	r.old(plate.Found(a.c, a.o, a.feature, a.value))
	r.table(plate.Twins(a.c))
	text, e8 := plate.Write(a.c, a.o)
	c, o, line, e9 := plate.Read(a.text)
	r.keep(text, e8, line)
	r.catalogue(c, e9)
	r.old(o, e9)
	return r
}

// wild returns arguments in which something is anything.
func wild(field, a, b int) arguments {
	x := arguments{c: catalogueC(), o: instrumentP(), feature: 1, value: 1}
	m := &x.c.Models[1]
	switch field {
	case 0:
		x.c.Features = a
	case 1:
		m.First, m.Looks[0][1] = a, b
	case 2:
		m.Numbers[0] = to(a, b)
	case 3:
		m.Looks[0] = slices.Repeat([]int{a}, 1000)
	case 4:
		m.Looks, m.Numbers = slices.Repeat([][]int{{a, b}}, 1000), slices.Repeat([]api.Range{to(a, b)}, 1000)
	case 5:
		x.c.Models = slices.Repeat(x.c.Models, 1000)
	case 6:
		x.o.Seen = []int{a, b}
	case 7:
		x.o.Seen = slices.Repeat([]int{a}, 1000)
	case 8:
		x.o.Changed = a
	case 9:
		x.feature, x.value = a, b
	case 10:
		x.c.Features, x.c.Models[0].Looks, m.Numbers = a, nil, nil
	}
	return x
}

// P1, R5: whatever the arguments are, each function comes to an end and does not panic.
func TestAnyArguments(t *testing.T) {
	for _, a := range extremes {
		for _, b := range extremes {
			for field := range 12 {
				callAll(wild(field, a, b))
			}
		}
	}
	for _, text := range []string{"", "\x00", "\xff\xfe\n", "\n\n", "-", "????", strings.Repeat("?", 1<<16), strings.Repeat("\xff", 4), "\xe2\x82\xac?", works, works + "look\n", works + "old\n", works + "look 1 1=1\n", works + "model 1\nlook . =\n", works + "old . . .\n", works + model + look + "old 0 \xff 0\n" + museum, strings.Repeat("look ", 100), strings.Repeat("\n", 600), strings.Repeat(" ", 600)} {
		callAll(arguments{c: catalogueC(), o: with(instrumentP(), text), text: text})
		callAll(arguments{text: text})
	}
}

// P1: the largest catalogues come to an end, too, and long lists that are not valid.
func TestLargest(t *testing.T) {
	for values := 1; values <= api.MaxValue; values++ {
		c := of(api.MaxFeatures)
		d := dice(values)
		for range api.MaxModels {
			m := made(api.MaxYear)
			for range api.MaxMade {
				m.Looks = append(m.Looks, d.looks(nil, api.MaxFeatures, values))
				m.Numbers = append(m.Numbers, to(0, api.MaxPlate))
			}
			c.Models = append(c.Models, m)
		}
		for _, text := range []string{"", "????", "?9??", "9999"} {
			for changed := range api.MaxFeatures + 1 {
				a := arguments{c: c, o: old(text, changed, 0, 0, 0, 0), feature: 3, value: 1}
				callAll(a)
				if fits, e := plate.Fits(c, a.o); len(fits) != 16 || e != api.OK {
					t.Error(text, changed, fits, e)
				}
			}
		}
		text, e := plate.Write(c, old("0000", 4, 3, 3, 3, 3))
		if e != api.OK || len(text) > api.MaxMuseum {
			t.Error(len(text), e)
		}
	}
	const many = 1 << 18
	callAll(arguments{c: of(1, make([]api.Model, many)...)})
	callAll(arguments{c: of(1, api.Model{First: 1900, Looks: make([][]int, many), Numbers: make([]api.Range, many)})})
	callAll(arguments{c: of(1, made(1900, year{make([]int, many), 0, 0}))})
	callAll(arguments{c: catalogueC(), o: old(strings.Repeat("1", many), 0, make([]int, many)...), feature: many, value: math.MaxInt})
}

// spare returns a list with room behind it, and the list with this room.
func spare[T any](list []T, behind T) (part, whole []T) {
	whole = append(slices.Clone(list), behind, behind, behind)
	return whole[:len(list)], whole
}

// some returns valid arguments.
func (d *dice) some() arguments {
	a := arguments{c: d.catalogue()}
	a.o = d.instrument(a.c)
	a.feature, a.value = d.roll(0, a.c.Features-1), d.roll(1, api.MaxValue)
	c := d.catalogue()
	a.text, _ = plate.Write(c, d.instrument(c))
	return a
}

// R4, R8: arguments are not changed, nor is what lies behind them in memory.
func TestArgumentsStay(t *testing.T) {
	d := dice(21)
	for range 500 {
		a := d.some()
		var seen []int
		var models []api.Model
		var numbers [][]api.Range
		var tables [][][]int
		var looks [][]int
		a.o.Seen, seen = spare(a.o.Seen, 77)
		a.c.Models, models = spare(a.c.Models, made(77))
		for i := range a.c.Models {
			m := &a.c.Models[i]
			var spans []api.Range
			var table [][]int
			m.Numbers, spans = spare(m.Numbers, to(7, 7))
			m.Looks, table = spare(m.Looks, []int{7})
			for at := range m.Looks {
				var list []int
				m.Looks[at], list = spare(m.Looks[at], 7)
				looks = append(looks, list)
			}
			numbers, tables = append(numbers, spans), append(tables, table)
		}
		all := of(1, models...)
		seenBefore, allBefore, numbersBefore, looksBefore := slices.Clone(seen), copyOf(all), deep(numbers), deep(looks)
		tablesBefore := deep(slices.Concat(tables...))
		callAll(a)
		if !slices.Equal(seen, seenBefore) || !equal(all, allBefore) || !slices.EqualFunc(numbers, numbersBefore, slices.Equal) || !same(looks, looksBefore) || !same(slices.Concat(tables...), tablesBefore) {
			t.Fatal(a, seen, all, numbers, looks)
		}
	}
}

// deep returns a copy of a list of lists.
func deep[T any](lists [][]T) [][]T {
	var copies [][]T
	for _, list := range lists {
		copies = append(copies, slices.Clone(list))
	}
	return copies
}

// spoil changes all lists, and what lies behind them, too; no list may change with another one.
func spoil[T any](t *testing.T, lists [][]T, by T, equal func(a, b T) bool) {
	t.Helper()
	copies := deep(lists)
	for i, list := range lists {
		if !slices.EqualFunc(list, copies[i], equal) {
			t.Fatal("two lists share memory", i, list, copies[i])
		}
		whole := list[:cap(list)]
		for at := range whole {
			whole[at] = by
		}
	}
}

// is tells whether two values are equal.
func is[T comparable](a, b T) bool { return a == b }

// R2, R4: nothing is kept, and results share no memory with arguments or with each other.
func TestResultsAreNew(t *testing.T) {
	d := dice(22)
	for range 500 {
		a := d.some()
		a.c.Models, a.o.Seen = slices.Grow(a.c.Models, 5), slices.Grow(a.o.Seen, 5)
		r := callAll(a)
		spoil(t, r.lists, -7, is)
		spoil(t, r.ranges, to(-7, -7), is)
		spoil(t, r.tables, nil, slices.Equal)
		spoil(t, r.models, made(-7), func(a, b api.Model) bool { return equal(of(1, a), of(1, b)) })
		if again := callAll(a); !slices.Equal(again.values, r.values) {
			t.Fatal(a, "a result shares memory")
		}
	}
}

// R4: a nil slice and an empty one are equal.
func TestEmptySlices(t *testing.T) {
	for features := range 2 {
		for i, pair := range [][2]arguments{
			{{}, {c: of(0, []api.Model{}...), o: old("", 0, []int{}...)}},
			{{c: of(features)}, {c: of(features, []api.Model{}...), o: old("", 0, []int{}...)}},
			{{c: of(features, made(1900))}, {c: of(features, api.Model{First: 1900, Looks: [][]int{}, Numbers: []api.Range{}})}},
			{{c: of(features, made(1900, year{nil, 0, 0}))}, {c: of(features, made(1900, year{[]int{}, 0, 0}))}},
			{{c: of(features, made(1900, year{[]int{1}, 0, 0}))}, {c: of(features, made(1900, year{[]int{1}, 0, 0})), o: old("", 0, []int{}...)}},
		} {
			if one, two := callAll(pair[0]), callAll(pair[1]); !slices.Equal(one.values, two.values) {
				t.Error(features, i, one.values, two.values)
			}
		}
	}
}

// R2, R6: the same call has the same result, whatever was called before, and in whichever order maps are gone through.
func TestSameResults(t *testing.T) {
	d := dice(23)
	var all []arguments
	var before [][]any
	for range 300 {
		a := d.some()
		all, before = append(all, a), append(before, callAll(a).values)
	}
	for i, a := range slices.Backward(all) {
		for range 3 {
			if again := callAll(a).values; !slices.Equal(again, before[i]) {
				t.Fatal(a, again, before[i])
			}
		}
	}
}
