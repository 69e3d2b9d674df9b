package plate_test

import (
	"math"
	"slices"
	"strings"
	"testing"

	"musette/api"
	"musette/plate"
)

// extremes are numbers within bounds, at their ends, and beyond them.
var extremes = []int{math.MinInt, math.MinInt + 1, -9999, -3, -2, -1, 0, 1, 2, 3, 4, 5, 6, 9, 10, 100, 1799, 1800, 1801, 1900, 1998, 1999, 2000, 2002, 9998, 9999, 10000, math.MaxInt - 1, math.MaxInt}

// bounded returns the error of a number that has bounds.
func bounded(n, least, most int) api.Errno { return no(n < least || n > most, api.ErrValue) }

// long returns the error of the length of a list that has bounds.
func long(n, least, most int) api.Errno {
	return firstOf(no(n < least, api.ErrFew), no(n > most, api.ErrMany))
}

// firstOf returns the first of several errors that is one.
func firstOf(errors ...api.Errno) api.Errno {
	for _, e := range errors {
		if e != api.OK {
			return e
		}
	}
	return api.OK
}

// no returns an error if something is wrong.
func no(wrong bool, e api.Errno) api.Errno {
	if wrong {
		return e
	}
	return api.OK
}

// P10.1: the numbers of a catalogue have their bounds.
func TestCheckNumbers(t *testing.T) {
	for _, n := range extremes {
		looks := slices.Repeat([]int{1}, min(max(n, 1), api.MaxFeatures))
		if e := plate.Check(of(n, made(1900, year{looks, 0, 0}))); e != bounded(n, 1, 4) {
			t.Error("features", n, e)
		}
		for made := 1; made <= api.MaxMade; made++ { // later years may be beyond the last one of a first year
			m := api.Model{First: n, Looks: slices.Repeat([][]int{{1}}, made), Numbers: make([]api.Range, made)}
			if e := plate.Check(of(1, m)); e != bounded(n, 1800, 1999) {
				t.Error("first", n, e)
			}
		}
		for features := 1; features <= api.MaxFeatures; features++ {
			for at := range features {
				looks := slices.Repeat([]int{1}, features)
				looks[at] = n
				if e := plate.Check(of(features, made(1900, year{looks, 0, 0}))); e != bounded(n, 1, 3) {
					t.Error("look", features, at, n, e)
				}
			}
		}
		for _, m := range extremes {
			want := firstOf(bounded(n, 0, 9999), bounded(m, 0, 9999), no(n > m, api.ErrOrder))
			if e := plate.Check(of(1, made(1900, year{[]int{1}, 9999, 9999}, year{[]int{1}, n, m}))); e != want {
				t.Error("numbers", n, m, e)
			}
		}
	}
}

// P10.1: lists have their lengths.
func TestCheckLengths(t *testing.T) {
	for n := range 8 {
		if e := plate.Check(of(1, slices.Repeat([]api.Model{made(1900, year{[]int{1}, 0, 0})}, n)...)); e != long(n, 1, 4) {
			t.Error("models", n, e)
		}
		for numbers := range 8 {
			m := api.Model{First: 1900, Looks: slices.Repeat([][]int{{1}}, n), Numbers: make([]api.Range, numbers)}
			if e := plate.Check(of(1, m)); e != firstOf(long(n, 1, 4), long(numbers, n, n)) {
				t.Error("made", n, numbers, e)
			}
		}
		for features := 1; features <= api.MaxFeatures; features++ {
			looks := slices.Repeat([]int{3}, n)
			right := slices.Repeat([]int{3}, features)
			if e := plate.Check(of(features, made(1900, year{right, 0, 0}, year{looks, 0, 0}))); e != long(n, features, features) {
				t.Error("looks", features, n, e)
			}
		}
	}
}

// change is a change of a catalogue, and the error that is due to it.
type change struct {
	name string
	make func(*api.Catalogue)
	want api.Errno
}

// changes returns changes in the order in which the chapter names their errors.
func changes() []change {
	list := []change{
		{"features", func(c *api.Catalogue) { c.Features = 5 }, api.ErrValue},
		{"no features", func(c *api.Catalogue) { c.Features = 0 }, api.ErrValue},
		{"no models", func(c *api.Catalogue) { c.Models = c.Models[:0] }, api.ErrFew},
		{"models", func(c *api.Catalogue) { c.Models = append(c.Models, make([]api.Model, 3)...) }, api.ErrMany},
	}
	for i := range catalogueC().Models {
		model := func(name string, make func(*api.Model), want api.Errno) {
			list = append(list, change{name, func(c *api.Catalogue) {
				if i < len(c.Models) {
					make(&c.Models[i])
				}
			}, want})
		}
		model("first", func(m *api.Model) { m.First = 2000 }, api.ErrValue)
		model("no looks", func(m *api.Model) { m.Looks = nil }, api.ErrFew)
		model("looks", func(m *api.Model) { m.Looks = append(m.Looks, nil, nil, nil) }, api.ErrMany)
		model("few numbers", func(m *api.Model) { m.Numbers = m.Numbers[:1] }, api.ErrFew)
		model("many numbers", func(m *api.Model) { m.Numbers = append(m.Numbers, to(9, 8), to(9, 8)) }, api.ErrMany)
		for at := range 2 {
			look := func(name string, make func(list *[]int), want api.Errno) {
				model(name, func(m *api.Model) {
					if at < len(m.Looks) {
						make(&m.Looks[at])
					}
				}, want)
			}
			look("few looks", func(l *[]int) { *l = (*l)[:min(1, len(*l))] }, api.ErrFew)
			look("many looks", func(l *[]int) { *l = append(*l, 7, 7) }, api.ErrMany)
			look("look", func(l *[]int) { setLast(*l, 4) }, api.ErrValue)
			look("no look", func(l *[]int) { setLast(*l, 0) }, api.ErrValue)
		}
		for at := range 2 {
			number := func(name string, r api.Range, want api.Errno) {
				model(name, func(m *api.Model) {
					if at < len(m.Numbers) {
						m.Numbers[at] = r
					}
				}, want)
			}
			number("number", to(10000, 0), api.ErrValue)
			number("order", to(2, 1), api.ErrOrder)
		}
	}
	return list
}

// setLast sets the last number of a list, if it has one.
func setLast(list []int, n int) {
	if len(list) > 0 {
		list[len(list)-1] = n
	}
}

// P10.1, R1: of two errors of a catalogue the one that the chapter names first is returned: model by model, all looks year by year, then all numbers.
func TestCheckOrder(t *testing.T) {
	list := changes()
	for i, one := range list {
		for _, other := range list[i:] {
			both := catalogueC()
			other.make(&both)
			one.make(&both)
			if e := plate.Check(both); e != one.want {
				t.Error(one.name, "and", other.name, e)
			}
		}
	}
}

// P10.1: the numbers of an instrument have their bounds, and what is seen has its length.
func TestValidNumbers(t *testing.T) {
	for features := 1; features <= api.MaxFeatures; features++ {
		c := of(features, made(1900, year{slices.Repeat([]int{1}, features), 0, 0}))
		for n := range 8 {
			if e := plate.Valid(c, old("", 0, make([]int, n)...)); e != long(n, features, features) {
				t.Error("seen", features, n, e)
			}
		}
		for _, n := range extremes {
			for at := range features {
				if e := plate.Valid(c, seeing(old("", 4, make([]int, features)...), at, n)); e != bounded(n, 0, 3) {
					t.Error("seen", features, at, n, e)
				}
			}
			if e := plate.Valid(c, old("", n, make([]int, features)...)); e != bounded(n, 0, 4) {
				t.Error("changed", features, n, e)
			}
		}
	}
}

// P10.1: a plate is empty, or has four bytes, each a digit or a question mark.
func TestValidPlates(t *testing.T) {
	for _, right := range []string{"", "????", "0000", "9999", "?0?9", "1234", "5678"} {
		if e := plate.Valid(catalogueC(), old(right, 0, 0, 0)); e != api.OK {
			t.Error(right, e)
		}
	}
	for _, wrong := range []string{"?", "??", "???", "?????", "0", "123", "12345", "-", "----", "    ", "123 ", " 123", "12.4", "-123", "+123", "1e10", "0x10", "1_00", "123\n", "123\x00", "12\xff4", "\xff\xff\xff\xff", "١٢", "１1", "12é", "1２", "????????", strings.Repeat("1", 1000)} {
		if e := plate.Valid(catalogueC(), old(wrong, 0, 0, 0)); e != api.ErrText {
			t.Error(wrong, e)
		}
	}
	for at := range 4 {
		for b := range 256 {
			letters := []byte("0?9?")
			letters[at] = byte(b)
			want := no(b != '?' && (b < '0' || b > '9'), api.ErrText)
			if e := plate.Valid(catalogueC(), old(string(letters), 0, 0, 0)); e != want {
				t.Error(letters, e)
			}
		}
	}
}

// P10.1, R1: of two errors of an instrument the one that the chapter names first is returned, and that of the catalogue ahead of both.
func TestValidOrder(t *testing.T) {
	list := []struct {
		make func(*api.Old)
		want api.Errno
	}{
		{func(o *api.Old) { o.Seen = []int{9} }, api.ErrFew},
		{func(o *api.Old) { o.Seen = []int{9, 9, 9} }, api.ErrMany},
		{func(o *api.Old) { o.Seen = []int{0, 4} }, api.ErrValue},
		{func(o *api.Old) { o.Seen = []int{-1, 0} }, api.ErrValue},
		{func(o *api.Old) { o.Plate = "12" }, api.ErrText},
		{func(o *api.Old) { o.Changed = 5 }, api.ErrValue},
	}
	for i, one := range list {
		for j, other := range list[i:] {
			both := instrumentO()
			other.make(&both)
			one.make(&both)
			if e := plate.Valid(catalogueC(), both); e != one.want {
				t.Error(i, i+j, e)
			}
			for _, c := range changes() {
				if e := plate.Valid(but(c.make), both); e != c.want {
					t.Error(i, i+j, c.name, e)
				}
			}
		}
	}
}

// checkNothing calls all functions that need an instrument that has a truth, which return this error, and then nothing else.
func checkNothing(t *testing.T, c api.Catalogue, o api.Old, want api.Errno) {
	t.Helper()
	fits, e1 := plate.Fits(c, o)
	models, e2 := plate.Models(c, o)
	model, e3 := plate.Model(c, o)
	years, e4 := plate.Years(c, o)
	numbers, e5 := plate.Numbers(c, o)
	known, e6 := plate.Known(c, o, 0)
	altered, e7 := plate.Altered(c, o)
	feature, left, e8 := plate.Next(c, o)
	decides, e9 := plate.Decides(c, o)
	if errors := []api.Errno{e1, e2, e3, e4, e5, e6, e7, e8, e9}; !slices.Equal(errors, slices.Repeat([]api.Errno{want}, 9)) {
		t.Error(c, o, errors, want)
	}
	if len(fits)+len(models)+len(known)+len(altered) > 0 || model != 0 || years != to(0, 0) || numbers != to(0, 0) || feature != 0 || left != 0 || decides != 0 {
		t.Error(c, o, fits, models, known, altered, model, years, numbers, feature, left, decides)
	}
}

// checkInvalid calls all functions with a catalogue or an instrument that is not valid: they return this error, and nothing else.
func checkInvalid(t *testing.T, c api.Catalogue, o api.Old, want api.Errno) {
	t.Helper()
	checkNothing(t, c, o, want)
	known, e1 := plate.Known(c, o, -1)
	least, e2 := plate.Least(c, o)
	forged, e3 := plate.Forged(c, o)
	found, e4 := plate.Found(c, o, -1, 9)
	text, e5 := plate.Write(c, o)
	if errors := []api.Errno{e1, e2, e3, e4, e5}; !slices.Equal(errors, slices.Repeat([]api.Errno{want}, 5)) {
		t.Error(c, o, errors, want)
	}
	if len(known)+least+len(text) > 0 || forged || !alike(found, api.Old{}) {
		t.Error(c, o, known, least, forged, found, text)
	}
}

// P10.1 to P10.6, R1, R3: the error of the catalogue, then that of the instrument comes ahead of all others, and with an error there is no other result.
func TestErrorsOfArguments(t *testing.T) {
	wrong := []api.Old{old("", 0), old("", 0, 1, 1, 1), old("", 0, 1, 4), old("1", 0, 1, 1), old("", 5, 1, 1)}
	for i, o := range wrong {
		checkInvalid(t, catalogueC(), o, []api.Errno{api.ErrFew, api.ErrMany, api.ErrValue, api.ErrText, api.ErrValue}[i])
	}
	for _, x := range changes() {
		c := but(x.make)
		for _, o := range append(wrong, instrumentO(), old("9999", 0, 3, 3)) {
			checkInvalid(t, c, o, x.want)
		}
		if twins, e := plate.Twins(c); e != x.want || len(twins) > 0 {
			t.Error(x.name, twins, e)
		}
	}
}

// P10.1 to P10.4, R1, R3: without a truth there is ErrAgainst, and no other result.
func TestErrorsOfAgainst(t *testing.T) {
	for _, o := range []api.Old{
		with(instrumentO(), "04??"), // no model had such a number
		old("?4??", 4, 0, 0),
		old("1?0?", 4, 3, 3),
		old("", 0, 3, 0), // none looked so
		old("", 0, 2, 1), // none did in one year
		old("???0", 0, 2, 1),
		old("", 1, 3, 3),     // more must have been changed
		old("010?", 0, 2, 0), // none that looked so had such a number
		old("0301", 0, 2, 2),
	} {
		checkNothing(t, catalogueC(), o, api.ErrAgainst)
	}
	for _, o := range []api.Old{instrumentO(), instrumentP(), old("", 2, 3, 3), old("????", 0, 0, 0), old("0399", 0, 2, 2), old("0100", 0, 1, 1), old("?3??", 0, 1, 0)} {
		if fits := must[[][]int](t)(plate.Fits(catalogueC(), o)); len(fits) == 0 {
			t.Error(o)
		}
	}
}

// P10.2, P10.5, R1, R3: Known and Found are asked of a feature of the catalogue, ahead of all that is said of truths.
func TestErrorsOfFeatures(t *testing.T) {
	for _, features := range []int{1, 2, 4} {
		c := of(features, made(1900, year{slices.Repeat([]int{2}, features), 0, 0}))
		for _, feature := range extremes {
			for _, o := range []api.Old{old("", 0, make([]int, features)...), old("9999", 0, make([]int, features)...)} {
				fits := o.Plate == ""
				want := firstOf(no(feature < 0 || feature >= features, api.ErrUnknown), no(!fits, api.ErrAgainst))
				if known, e := plate.Known(c, o, feature); e != want || e == api.OK && !slices.Equal(known, []int{2}) || e != api.OK && len(known) > 0 {
					t.Error(features, feature, o, known, e)
				}
				for _, value := range extremes {
					want := firstOf(no(feature < 0 || feature >= features, api.ErrUnknown), bounded(value, 1, 3), no(!fits || value != 2, api.ErrAgainst))
					if found, e := plate.Found(c, o, feature, value); e != want || e != api.OK && !alike(found, api.Old{}) {
						t.Error(features, feature, value, o, found, e)
					}
					seen := old(o.Plate, 0, slices.Repeat([]int{3}, features)...)
					want = firstOf(no(feature < 0 || feature >= features, api.ErrUnknown), api.ErrOrder)
					if found, e := plate.Found(c, seen, feature, value); e != want || !alike(found, api.Old{}) {
						t.Error(features, feature, value, seen, found, e)
					}
				}
			}
		}
	}
}
