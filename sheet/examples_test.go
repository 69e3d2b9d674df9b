package sheet_test

import (
	"slices"
	"testing"

	"musette/api"
	"musette/sheet"
)

// P8.1: the examples of Check and Size.
func TestExamplesCheck(t *testing.T) {
	for i, c := range []struct {
		s    api.Sheet
		want api.Errno
	}{
		{stockS(), api.OK},
		{but(func(s *api.Sheet) { s.Long = 13 }), api.ErrValue},
		{but(func(s *api.Sheet) { s.Along = to(2, 1) }), api.ErrOrder},
		{but(func(s *api.Sheet) { s.Parts = slices.Repeat(s.Parts, 2) }), api.ErrMany},
		{but(func(s *api.Sheet) { s.Parts[1].Pattern = 4 }), api.ErrValue},
	} {
		if e := sheet.Check(c.s); e != c.want {
			t.Error(i, e)
		}
	}
	for i, c := range []struct {
		part           int
		turned, surely bool
		long, wide     int
		e              api.Errno
	}{
		{0, false, true, 4, 2, api.OK},
		{0, true, true, 3, 3, api.OK},
		{0, false, false, 3, 2, api.OK},
		{1, true, true, 0, 0, api.ErrKind},
	} {
		if long, wide, e := sheet.Size(stockS(), c.part, c.turned, c.surely); long != c.long || wide != c.wide || e != c.e {
			t.Error(i, long, wide, e)
		}
	}
}

// P8.2: the examples of Plan and Fits.
func TestExamplesPlan(t *testing.T) {
	for i, c := range []struct {
		list   []int
		surely bool
		want   []api.Spot
		e      api.Errno
	}{
		{[]int{0, 1}, true, []api.Spot{spot(0, 0, true), spot(3, 0, false)}, api.OK},
		{[]int{1, 0}, true, []api.Spot{spot(0, 0, false), spot(3, 0, true)}, api.OK},
		{[]int{0, 2}, true, []api.Spot{spot(0, 1, false), spot(0, 0, false)}, api.OK},
		{[]int{0, 1, 2}, true, nil, api.ErrNone},
		{[]int{0, 1, 2}, false, []api.Spot{spot(2, 1, false), spot(0, 0, false), spot(2, 0, false)}, api.OK},
		{[]int{0, 0}, true, nil, api.ErrTwice},
	} {
		if spots, e := sheet.Plan(stockS(), c.list, c.surely); !slices.Equal(spots, c.want) || e != c.e {
			t.Error(i, spots, e)
		}
	}
	for i, c := range []struct {
		s    api.Sheet
		list []int
		want int
	}{
		{stockS(), []int{0, 2}, always},
		{stockS(), []int{0, 1, 2}, either},
		{but(func(s *api.Sheet) { s.Long = 5 }), []int{0, 1, 2}, never},
	} {
		if v, e := sheet.Fits(c.s, c.list); v != c.want || e != api.OK {
			t.Error(i, v, e)
		}
	}
}

// P8.3: the examples of Cuts.
func TestExamplesCuts(t *testing.T) {
	for i, c := range []struct {
		list  []int
		spots []api.Spot
		want  bool
	}{
		{[]int{0, 2}, []api.Spot{spot(0, 1, false), spot(0, 0, false)}, true},
		{[]int{0, 2}, []api.Spot{spot(0, 0, false), spot(0, 1, false)}, false},
		{[]int{0}, []api.Spot{spot(3, 0, false)}, false},
		{[]int{0}, []api.Spot{spot(2, 1, false)}, true},
	} {
		if is, e := sheet.Cuts(stockS(), c.list, c.spots, true); is != c.want || e != api.OK {
			t.Error(i, is, e)
		}
	}
}

// P8.4: the examples of Sheets and Scrap.
func TestExamplesSheets(t *testing.T) {
	for i, c := range []struct {
		s      api.Sheet
		surely bool
		want   []int
		number int
	}{
		{stockS(), true, []int{0, 0, 1}, 2},
		{stockS(), false, []int{0, 0, 0}, 1},
		{stockT(), true, []int{0, 1, 0}, 2},
	} {
		if l, n, e := sheet.Sheets(c.s, c.surely); !slices.Equal(l, c.want) || n != c.number || e != api.OK {
			t.Error(i, l, n, e)
		}
	}
	if n, e := sheet.Scrap(stockS(), true); n != 14 || e != api.OK {
		t.Error(n, e)
	}
	if n, e := sheet.Scrap(stockS(), false); n != 2 || e != api.OK {
		t.Error(n, e)
	}
}

// P8.5: the examples of Bound, Worst and Spare.
func TestExamplesSpare(t *testing.T) {
	if n, e := sheet.Bound(stockS(), true); n != 2 || e != api.OK {
		t.Error(n, e)
	}
	if n, e := sheet.Bound(stockS(), false); n != 1 || e != api.OK {
		t.Error(n, e)
	}
	if l, e := sheet.Worst(stockS()); !slices.Equal(l, []int{never, always, always}) || e != api.OK {
		t.Error(l, e)
	}
	for i, c := range []struct {
		p    api.Part
		want int
	}{{part(1, 1), 2}, {part(6, 3), 0}, {grain(5, 2), 1}} {
		if n, e := sheet.Spare(stockS(), c.p, true); n != c.want || e != api.OK {
			t.Error(i, n, e)
		}
	}
}

// P8.6: the example of Write.
func TestExamplesWrite(t *testing.T) {
	s := stockT()
	s.Parts = s.Parts[:1]
	if text, e := sheet.Write(s); text != "sheet 6x3 0~1 0~0\nblank 3x2 any 1\nsawn\n" || e != api.OK {
		t.Error(text, e)
	}
}
