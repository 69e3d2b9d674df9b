package sheet_test

import (
	"math"
	"slices"
	"strings"
	"testing"

	"musette/api"
	"musette/sheet"
)

// arguments is all that the functions of the package take.
type arguments struct {
	s      api.Sheet
	list   []int
	spots  []api.Spot
	p      api.Part
	surely bool
	text   string
}

// results is all that comes out of the functions: values, and lists as they are.
type results struct {
	values []any
	lists  [][]int
	spots  [][]api.Spot
	parts  [][]api.Part
}

func (r *results) keep(values ...any) { r.values = append(r.values, values...) }

// keepList keeps a list, and its values.
func keepList[T any](r *results, lists *[][]T, list []T) {
	*lists = append(*lists, list)
	r.keep(len(list))
	for _, item := range list {
		r.keep(item)
	}
}

func (r *results) stock(s api.Sheet, e api.Errno) {
	keepList(r, &r.parts, s.Parts)
	r.keep(s.Long, s.Wide, s.Along, s.Across, e)
}

// callAll calls each function of the package with these arguments.
func callAll(a arguments) results {
	var r results
	r.keep(sheet.Check(a.s))
	for _, part := range append([]int{0}, a.list...) {
		long, wide, e := sheet.Size(a.s, part, len(a.list)%2 == 0, a.surely)
		r.keep(long, wide, e)
	}
	spots, e := sheet.Plan(a.s, a.list, a.surely)
	keepList(&r, &r.spots, spots)
	r.keep(e)
	verdict, e1 := sheet.Fits(a.s, a.list)
	is, e2 := sheet.Cuts(a.s, a.list, a.spots, a.surely)
	own, e3 := sheet.Cuts(a.s, a.list, spots, a.surely)
	r.keep(verdict, e1, is, e2, own, e3)
	sheets, number, e := sheet.Sheets(a.s, a.surely)
	keepList(&r, &r.lists, sheets)
	r.keep(number, e)
	bound, e1 := sheet.Bound(a.s, a.surely)
	scrap, e2 := sheet.Scrap(a.s, a.surely)
	room, e3 := sheet.Spare(a.s, a.p, a.surely)
	r.keep(bound, e1, scrap, e2, room, e3)
	worst, e := sheet.Worst(a.s)
	keepList(&r, &r.lists, worst)
	r.keep(e)
	r.stock(sheet.Turn(a.s))
	text, e := sheet.Write(a.s)
	s, line, x := sheet.Read(a.text)
	r.keep(text, e, line)
	r.stock(s, x)
	return r
}

// wild returns a stock in which something is anything.
func wild(field, a, b int) api.Sheet {
	s := stockS()
	switch field {
	case 0:
		s.Long, s.Wide = a, b
	case 1:
		s.Along = to(a, b)
	case 2:
		s.Across = to(a, b)
	case 3:
		s.Parts[1].Long, s.Parts[1].Wide = a, b
	case 4:
		s.Parts[0].Pattern, s.Parts[2].Pattern = a, b
	case 5:
		s.Parts = slices.Repeat([]api.Part{{Long: a, Wide: b, Grain: true, Pattern: a}}, 1000)
	}
	return s
}

// P1, R5: whatever the arguments are, each function comes to an end and does not panic.
func TestAnyArguments(t *testing.T) {
	numbers := []int{math.MinInt, math.MinInt + 1, -13, -1, 0, 1, 2, 3, 5, 12, 13, math.MaxInt - 1, math.MaxInt}
	for _, a := range numbers {
		for _, b := range numbers {
			for field := range 7 {
				s := wild(field, a, b)
				for _, list := range [][]int{nil, {a, b}, {0, 1, 2, a}, {2, 0}, slices.Repeat([]int{a}, 1000)} {
					callAll(arguments{s: s, list: list, spots: []api.Spot{spot(a, b, true), spot(b, a, false)}, p: api.Part{Long: a, Wide: b, Pattern: a}, text: strings.Repeat("blank ", field)})
				}
				callAll(arguments{s: s, list: []int{0, 1, 2}, spots: []api.Spot{spot(a, b, true), spot(b, a, false), spot(a, a, false)}, p: part(1, 1), surely: true, text: sheetLine + "blank "})
				callAll(arguments{s: s, spots: make([]api.Spot, 1000), p: patterned(b, 1, a)})
			}
		}
	}
	for _, text := range []string{"\x00", "\xff\xfe\n", "sheet\n", " \n", "sheet  \n", "sheet \xff\n", "\n\n", sawnLine, sheetLine + "blank x any ~\n", "sheet x ~ ~\n", strings.Repeat(" ", 300), strings.Repeat("x", 300), strings.Repeat("~", 300)} {
		callAll(arguments{text: text})
	}
}

// P1: the largest stocks come to an end, too.
func TestLargest(t *testing.T) {
	for _, s := range []api.Sheet{
		largest(),
		plain(12, 12, slices.Repeat([]api.Part{part(1, 1)}, 5)...),
		plain(12, 12, part(6, 6), part(6, 7), part(6, 5), part(6, 2), part(6, 3)),
		plain(12, 12, part(4, 5), part(1, 5), part(4, 4), part(4, 5), part(9, 6)),
		plain(12, 11, grain(6, 6), part(6, 5), part(6, 6), grain(6, 5), part(1, 1)),
	} {
		all := []int{4, 2, 0, 1, 3}
		for _, surely := range []bool{false, true} {
			callAll(arguments{s: s, list: all, spots: make([]api.Spot, 5), p: part(1, 1), surely: surely})
			one := s
			one.Parts = s.Parts[:1]
			callAll(arguments{s: one, list: []int{0}, p: part(6, 5), surely: surely})
		}
	}
}

// spare returns a list with room behind it, and the list with this room.
func spare[T any](list []T, behind T) (part, whole []T) {
	whole = append(slices.Clone(list), behind, behind, behind)
	return whole[:len(list)], whole
}

// some returns valid arguments.
func (d *dice) some() arguments {
	a := arguments{s: d.stock(5, d.roll(1, 8)), p: d.part(4), surely: d.often(2)}
	a.list = d.list(a.s)
	a.spots = d.spots(a.s, a.list, a.surely)
	a.text, _ = sheet.Write(d.stock(5, 12))
	return a
}

// P8.5, R4: arguments are not changed, nor is what lies behind them in memory.
func TestArgumentsStay(t *testing.T) {
	d := dice(24)
	for range 300 {
		a := d.some()
		var parts []api.Part
		var list []int
		var spots []api.Spot
		a.s.Parts, parts = spare(a.s.Parts, part(77, 77))
		a.list, list = spare(a.list, 77)
		a.spots, spots = spare(a.spots, spot(77, 77, true))
		partsBefore, listBefore, spotsBefore := slices.Clone(parts), slices.Clone(list), slices.Clone(spots)
		callAll(a)
		if !slices.Equal(parts, partsBefore) || !slices.Equal(list, listBefore) || !slices.Equal(spots, spotsBefore) {
			t.Fatal(a, parts, partsBefore, list, listBefore, spots, spotsBefore)
		}
	}
}

// spoil changes all lists, and what lies behind them, too; no list may change with another one.
func spoil[T comparable](t *testing.T, lists [][]T, by T) {
	t.Helper()
	var copies [][]T
	for _, list := range lists {
		copies = append(copies, slices.Clone(list))
	}
	for i, list := range lists {
		if !slices.Equal(list, copies[i]) {
			t.Fatal("two lists share memory", i, list, copies[i])
		}
		whole := list[:cap(list)]
		for at := range whole {
			whole[at] = by
		}
	}
}

// R2, R4: nothing is kept, and results share no memory with arguments or with each other.
func TestResultsAreNew(t *testing.T) {
	d := dice(25)
	for range 300 {
		a := d.some()
		r := callAll(a)
		spoil(t, r.lists, -7)
		spoil(t, r.spots, spot(-7, -7, true))
		spoil(t, r.parts, part(-7, -7))
		if again := callAll(a); !slices.Equal(again.values, r.values) {
			t.Fatal(a, "a result shares memory")
		}
	}
}

// R4: a nil slice and an empty one are equal.
func TestEmptySlices(t *testing.T) {
	for _, side := range []int{0, 1, 12} {
		for _, surely := range []bool{false, true} {
			s := plain(side, 12)
			one := callAll(arguments{s: s, p: part(1, 1), surely: surely})
			s.Parts = []api.Part{}
			two := callAll(arguments{s: s, list: []int{}, spots: []api.Spot{}, p: part(1, 1), surely: surely})
			if !slices.Equal(one.values, two.values) {
				t.Error(one.values, two.values)
			}
		}
	}
}

// R2, R6: the same call has the same result, whatever was called before, and in whichever order maps are gone through.
func TestSameResults(t *testing.T) {
	d := dice(26)
	var all []arguments
	var before [][]any
	for range 200 {
		a := d.some()
		all, before = append(all, a), append(before, callAll(a).values)
	}
	for i, a := range slices.Backward(all) {
		for range 3 {
			if again := callAll(a).values; !slices.Equal(again, before[i]) {
				t.Fatal(a, again, before[i])
			}
		}
	}
}
