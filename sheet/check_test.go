package sheet_test

import (
	"math"
	"slices"
	"testing"

	"musette/api"
	"musette/sheet"
)

// extremes are numbers within bounds, at their ends, and beyond them.
var extremes = []int{math.MinInt, math.MinInt + 1, -13, -12, -3, -2, -1, 0, 1, 2, 3, 4, 5, 6, 7, 11, 12, 13, 14, 100, math.MaxInt - 1, math.MaxInt}

// bounded returns the error of a number that has bounds.
func bounded(n, least, most int) api.Errno {
	return no(n < least || n > most, api.ErrValue)
}

// firstOf returns the first of several errors that is one.
func firstOf(errors ...api.Errno) api.Errno {
	for _, e := range errors {
		if e != api.OK {
			return e
		}
	}
	return api.OK
}

// no returns an error if something is wrong.
func no(wrong bool, e api.Errno) api.Errno {
	if wrong {
		return e
	}
	return api.OK
}

// P8.1: the numbers of a stock and of its blanks have their bounds, and a range has its order.
func TestCheckNumbers(t *testing.T) {
	for _, n := range extremes {
		if e := sheet.Check(but(func(s *api.Sheet) { s.Long = n })); e != bounded(n, 1, 12) {
			t.Error("long", n, e)
		}
		if e := sheet.Check(but(func(s *api.Sheet) { s.Wide = n })); e != bounded(n, 1, 12) {
			t.Error("wide", n, e)
		}
		for _, m := range extremes {
			want := firstOf(bounded(n, 0, 2), bounded(m, 0, 2), no(n > m, api.ErrOrder))
			if e := sheet.Check(but(func(s *api.Sheet) { s.Along = to(n, m) })); e != want {
				t.Error("along", n, m, e)
			}
			if e := sheet.Check(but(func(s *api.Sheet) { s.Across = to(n, m) })); e != want {
				t.Error("across", n, m, e)
			}
		}
		for i := range stockS().Parts {
			if e := sheet.Check(but(func(s *api.Sheet) { s.Parts[i].Long = n })); e != bounded(n, 1, 12) {
				t.Error("long", i, n, e)
			}
			if e := sheet.Check(but(func(s *api.Sheet) { s.Parts[i].Wide = n })); e != bounded(n, 1, 12) {
				t.Error("wide", i, n, e)
			}
			if e := sheet.Check(but(func(s *api.Sheet) { s.Parts[i].Pattern = n })); e != bounded(n, 0, 3) {
				t.Error("pattern", i, n, e)
			}
		}
	}
}

// P8.1: a stock has at most five blanks, and may have none.
func TestCheckMany(t *testing.T) {
	for n := range 12 {
		if e := sheet.Check(plain(1, 1, slices.Repeat([]api.Part{part(12, 12)}, n)...)); e != no(n > 5, api.ErrMany) {
			t.Error(n, e)
		}
	}
}

// change is a change of a stock, and the error that is due to it.
type change struct {
	name string
	make func(*api.Sheet)
	want api.Errno
}

// P8.1, R1: of two errors of a stock the one that the chapter names first is returned.
func TestCheckOrder(t *testing.T) {
	changes := []change{
		{"sides", func(s *api.Sheet) { s.Long = 0 }, api.ErrValue},
		{"along", func(s *api.Sheet) { s.Along = to(0, 3) }, api.ErrValue},
		{"order along", func(s *api.Sheet) { s.Along = to(2, 0) }, api.ErrOrder},
		{"across", func(s *api.Sheet) { s.Across = to(-1, 0) }, api.ErrValue},
		{"order across", func(s *api.Sheet) { s.Across = to(1, 0) }, api.ErrOrder},
		{"many", func(s *api.Sheet) { s.Parts = append(s.Parts, make([]api.Part, 3)...) }, api.ErrMany},
		{"side of a blank", func(s *api.Sheet) { s.Parts[1].Wide = 13 }, api.ErrValue},
		{"pattern", func(s *api.Sheet) { s.Parts[0].Pattern = -1 }, api.ErrValue},
	}
	for i, one := range changes {
		for _, other := range changes[i:] {
			both := stockS()
			other.make(&both)
			one.make(&both)
			if e := sheet.Check(both); e != one.want {
				t.Error(one.name, "and", other.name, e)
			}
		}
	}
}

// P8.1: the sizes of blanks, surely and in hope, turned or not; one with grain is not turned, and others do not exist.
func TestSize(t *testing.T) {
	d := dice(1)
	for range 2000 {
		s := d.stock(5, 12)
		for i, p := range s.Parts {
			for way := range 4 {
				turned, surely := way%2 == 1, way/2 == 1
				long, wide, e := sheet.Size(s, i, turned, surely)
				want, across := sizeOf(s, p, turned, surely)
				if turned && p.Grain {
					if long != 0 || wide != 0 || e != api.ErrKind {
						t.Fatal(s, i, long, wide, e)
					}
				} else if long != want || wide != across || e != api.OK {
					t.Fatal(s, i, turned, surely, long, wide, e)
				}
			}
		}
		for _, i := range []int{math.MinInt, -1, len(s.Parts), len(s.Parts) + 1, math.MaxInt} {
			if long, wide, e := sheet.Size(s, i, d.often(2), d.often(2)); long != 0 || wide != 0 || e != api.ErrUnknown {
				t.Fatal(s, i, long, wide, e)
			}
		}
	}
}

// listError returns the error of a list of blanks, in the words of the chapter.
func listError(s api.Sheet, list []int) api.Errno {
	met := map[int]bool{}
	for _, i := range list {
		if i < 0 || i >= len(s.Parts) {
			return api.ErrUnknown
		}
		if met[i] {
			return api.ErrTwice
		}
		met[i] = true
	}
	return api.OK
}

// checkListed calls all functions that take a list of blanks, which return this error if it is one, and then nothing else.
func checkListed(t *testing.T, s api.Sheet, list []int, want api.Errno) {
	t.Helper()
	for _, surely := range []bool{false, true} {
		spots, e1 := sheet.Plan(s, list, surely)
		verdict, e2 := sheet.Fits(s, list)
		for n := range len(list) + 3 {
			is, e3 := sheet.Cuts(s, list, make([]api.Spot, n), surely)
			due := firstOf(want, no(n < len(list), api.ErrFew), no(n > len(list), api.ErrMany))
			if e3 != due || due != api.OK && is {
				t.Error(s, list, n, is, e3, due)
			}
		}
		if e2 != want || e1 != want && (want != api.OK || e1 != api.ErrNone) {
			t.Error(s, list, e1, e2, want)
		}
		if e1 != api.OK && len(spots) > 0 || e1 == api.OK && len(spots) != len(list) || (verdict == 0) != (want != api.OK) {
			t.Error(s, list, spots, verdict)
		}
	}
}

// P8.2, P8.3, R1, R3: all lists of up to four numbers are lists of blanks, or have the first error that one of their numbers has; the number of spots comes last.
func TestListErrors(t *testing.T) {
	met := map[api.Errno]int{}
	for length := range 5 {
		for list := range everyList(length, 4) {
			for i := range list {
				list[i]--
			}
			want := listError(stockS(), list)
			met[want]++
			checkListed(t, stockS(), list, want)
		}
	}
	if min(met[api.OK], met[api.ErrTwice], met[api.ErrUnknown]) < 16 {
		t.Error("too rare", met)
	}
	for _, list := range [][]int{{math.MinInt}, {math.MaxInt}, {0, math.MaxInt}, {1, 1, math.MinInt}, {1, math.MinInt, 1}, {0, 1, 2, 2}, {0, 1, 2, 3}, slices.Repeat([]int{1}, 100)} {
		checkListed(t, stockS(), list, listError(stockS(), list))
	}
}

// wrongStocks returns stocks with an error, and some without one.
func wrongStocks() []api.Sheet {
	return []api.Sheet{
		stockS(), stockT(), plain(1, 1), plain(2, 2, part(3, 1)),
		{}, plain(0, 1), plain(1, 13),
		but(func(s *api.Sheet) { s.Along = to(2, 1) }),
		but(func(s *api.Sheet) { s.Across = to(0, 3) }),
		but(func(s *api.Sheet) { s.Parts = make([]api.Part, 6) }),
		but(func(s *api.Sheet) { s.Parts[2].Long = 0 }),
		but(func(s *api.Sheet) { s.Parts[0].Wide = 13 }),
		but(func(s *api.Sheet) { s.Parts[0].Pattern = 4 }),
	}
}

// P8.1 to P8.6, R1, R3: the error of the stock comes first, and with it there is no other result.
func TestErrorsOfStocks(t *testing.T) {
	for _, s := range wrongStocks() {
		want := sheet.Check(s)
		turned, e1 := sheet.Turn(s)
		text, e2 := sheet.Write(s)
		bound, e3 := sheet.Bound(s, true)
		if e1 != want || e2 != want || e3 != want || want != api.OK && (!isZero(turned) || text != "" || bound != 0) {
			t.Error(s, turned, text, bound, e1, e2, e3)
		}
		for _, surely := range []bool{false, true} {
			long, wide, e := sheet.Size(s, 9, true, surely)
			if due := firstOf(want, api.ErrUnknown); e != due || long != 0 || wide != 0 {
				t.Error(s, long, wide, e)
			}
		}
		for _, list := range [][]int{nil, {0}, {9}, {0, 0}} {
			checkListed(t, s, list, firstOf(want, listError(s, list)))
		}
	}
}

// P8.4, P8.5, R1, R3: if there is no assignment, that comes last, and there is no other result.
func TestErrNone(t *testing.T) {
	for _, s := range append(wrongStocks(), plain(2, 2, grain(1, 3)), plain(3, 2, grain(2, 3)), plain(2, 2, part(1, 1), part(3, 1)), plain(2, 1, patterned(2, 2, 1), patterned(2, 1, 1)), plain(2, 1, patterned(1, 2, 1), patterned(2, 1, 1))) {
		want := sheet.Check(s)
		for _, surely := range []bool{false, true} {
			due := want
			if want == api.OK {
				_, number := fewestOf(s, surely)
				due = no(number < 0, api.ErrNone)
			}
			list, number, e1 := sheet.Sheets(s, surely)
			scrap, e2 := sheet.Scrap(s, surely)
			spare, e3 := sheet.Spare(s, part(1, 1), surely)
			if e1 != due || e2 != due || e3 != due || due != api.OK && (len(list) > 0 || number != 0 || scrap != 0 || spare != 0) {
				t.Error(s, list, number, scrap, spare, e1, e2, e3)
			}
			worst, e4 := sheet.Worst(s)
			if surely && (e4 != due || due != api.OK && len(worst) > 0) {
				t.Error(s, worst, e4)
			}
		}
	}
}

// P8.5, R1: the blank that Spare takes has its bounds, whose error comes after that of the stock, and ahead of that there is no assignment.
func TestErrorsOfSpare(t *testing.T) {
	none := plain(2, 2, part(3, 1))
	for _, n := range extremes {
		for i, p := range []api.Part{{Long: n, Wide: 1}, {Long: 1, Wide: n}, {Long: 1, Wide: 1, Pattern: n}} {
			want := bounded(n, 1, 12)
			if i == 2 {
				want = bounded(n, 0, 3)
			}
			if k, e := sheet.Spare(stockS(), p, true); e != want || e != api.OK && k != 0 {
				t.Error(p, k, e)
			}
			if k, e := sheet.Spare(none, p, true); e != firstOf(want, api.ErrNone) || k != 0 {
				t.Error(p, k, e)
			}
			if k, e := sheet.Spare(but(func(s *api.Sheet) { s.Along = to(2, 1) }), p, true); e != api.ErrOrder || k != 0 {
				t.Error(p, k, e)
			}
		}
	}
}
