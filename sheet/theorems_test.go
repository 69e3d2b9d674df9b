package sheet_test

import (
	"iter"
	"slices"
	"testing"

	"musette/api"
	"musette/sheet"
)

// P8.7: the spots of a plan can be cut.
func TestPlanned(t *testing.T) {
	d := dice(12)
	planned := map[int]int{}
	for range 5000 {
		s, surely := d.stock(5, d.roll(1, 12)), d.often(2)
		list := d.list(s)
		spots, e := sheet.Plan(s, list, surely)
		if e == api.ErrNone {
			continue
		}
		if !must[bool](t)(sheet.Cuts(s, list, must[[]api.Spot](t)(spots, e), surely)) || !canCut(s, picked(s, list), spots, surely) {
			t.Fatal(s, list, surely, spots)
		}
		planned[len(list)]++
	}
	if min(planned[2], planned[3], planned[4], planned[5]) < 50 {
		t.Error("too rare", planned)
	}
}

// allSpots hands out all spots of some blanks that are on a sheet.
func allSpots(s api.Sheet, number int) iter.Seq[[]api.Spot] {
	return func(yield func([]api.Spot) bool) {
		var all []api.Spot
		for x := range s.Long {
			for y := range s.Wide {
				all = append(all, spot(x, y, false), spot(x, y, true))
			}
		}
		for list := range everyList(number, len(all)-1) {
			var spots []api.Spot
			for _, i := range list {
				spots = append(spots, all[i])
			}
			if !yield(spots) {
				return
			}
		}
	}
}

// checkAll goes through all spots of all blanks of a stock: Cuts is right about each, and there is a plan just if some of them can be cut.
func checkAll(t *testing.T, s api.Sheet, list []int, surely bool) bool {
	t.Helper()
	some := false
	for spots := range allSpots(s, len(list)) {
		want := canCut(s, picked(s, list), spots, surely)
		if is := must[bool](t)(sheet.Cuts(s, list, spots, surely)); is != want {
			t.Fatal(s, list, spots, surely, is)
		}
		some = some || want
	}
	if _, e := sheet.Plan(s, list, surely); e != no(!some, api.ErrNone) {
		t.Fatal(s, list, surely, e, some)
	}
	return some
}

// P8.8: all spots of two blanks are gone through.
func TestAllOfTwo(t *testing.T) {
	d := dice(13)
	met := map[bool]int{}
	for range 400 {
		s := plain(d.roll(1, 5), d.roll(1, 5), d.part(4), d.part(4))
		s.Along, s.Across = to(0, d.roll(0, 1)), to(0, d.roll(0, 1))
		met[checkAll(t, s, []int{0, 1}, d.often(2))]++
	}
	if min(met[true], met[false]) < 50 {
		t.Error("too rare", met)
	}
}

// P8.8: all spots of three blanks on small sheets are gone through.
func TestAllOfThree(t *testing.T) {
	d := dice(14)
	met := map[bool]int{}
	for range 120 {
		s := plain(d.roll(1, 3), d.roll(2, 3), d.part(2), d.part(2), d.part(3))
		met[checkAll(t, s, []int{2, 0, 1}, true)]++
	}
	if min(met[true], met[false]) < 20 {
		t.Error("too rare", met)
	}
}

// P8.9: blanks of spots that can be cut lie within the sheet, do not overlap, and have room together.
func TestApart(t *testing.T) {
	d := dice(15)
	cut := map[int]int{}
	for range 40000 {
		s, surely := d.stock(5, d.roll(1, 9)), d.often(2)
		list := d.list(s)
		spots := d.spots(s, list, surely)
		if !must[bool](t)(sheet.Cuts(s, list, spots, surely)) {
			continue
		}
		cut[len(list)]++
		var boxes []box
		for i, p := range picked(s, list) {
			b := boxOf(s, p, spots[i], surely)
			if b.left < 0 || b.low < 0 || b.right > s.Long || b.high > s.Wide || slices.ContainsFunc(boxes, func(other box) bool { return overlap(b, other) }) {
				t.Fatal(s, list, spots, i)
			}
			boxes = append(boxes, b)
		}
		if _, e := sheet.Plan(s, list, surely); e != api.OK {
			t.Fatal(s, list, spots, e)
		}
		v := must[int](t)(sheet.Fits(s, list))
		if v == never || surely && v != always || areaOf(s, picked(s, list), surely) > s.Long*s.Wide {
			t.Fatal(s, list, spots, v)
		}
	}
	if min(cut[1], cut[2], cut[3], cut[4]) < 50 {
		t.Error("too rare", cut)
	}
}

// P8.10: no assignment has fewer sheets than that of Sheets, nor as many and comes before.
func TestFewest(t *testing.T) {
	d := dice(16)
	compared := 0
	for range 1500 {
		s, surely := d.stock(5, d.roll(2, 7)), d.often(2)
		list, number, e := sheet.Sheets(s, surely)
		met := false
		for other, n := range assignmentsOf(s, surely) {
			if e != api.OK || n < number || n == number && slices.Compare(other, list) < 0 {
				t.Fatal(s, surely, list, number, e, other, n)
			}
			met = met || slices.Equal(other, list)
			compared++
		}
		if met != (e == api.OK) {
			t.Fatal(s, surely, list, number, e)
		}
	}
	if compared < 2000 {
		t.Error("too rare", compared)
	}
}

// P8.11: Bound is at most the number of Sheets; scrap and blanks are all sheets together.
func TestBounded(t *testing.T) {
	d := dice(17)
	equals, lesser := 0, 0
	for range 1500 {
		s, surely := d.stock(5, d.roll(1, 12)), d.often(2)
		number := numberOf(t, s, surely)
		bound := must[int](t)(sheet.Bound(s, surely))
		if bound > number {
			t.Fatal(s, surely, bound, number)
		}
		scrap, e := sheet.Scrap(s, surely)
		if e == api.ErrNone {
			continue
		}
		if scrap < 0 || scrap+areaOf(s, s.Parts, surely) != number*s.Long*s.Wide {
			t.Fatal(s, surely, scrap, number)
		}
		if bound == number {
			equals++
		} else {
			lesser++
		}
	}
	if min(equals, lesser) < 50 {
		t.Error("too rare", equals, lesser)
	}
}

// eased returns a stock with larger sheets, less shrinking, no grain, or no pattern.
func (d *dice) eased(s api.Sheet) api.Sheet {
	s = copyOf(s)
	switch d.roll(0, 5) {
	case 0:
		s.Long = min(12, s.Long+d.roll(1, 3))
	case 1:
		s.Wide = min(12, s.Wide+d.roll(1, 3))
	case 2:
		s.Along = to(s.Along.Min/2, max(s.Along.Min/2, s.Along.Max-1))
	case 3:
		s.Across = to(s.Across.Min/2, max(s.Across.Min/2, s.Across.Max-1))
	case 4:
		for i := range s.Parts {
			s.Parts[i].Grain = false
		}
	case 5:
		for i := range s.Parts {
			s.Parts[i].Pattern = 0
		}
	}
	return s
}

// P8.12: with larger sheets, less shrinking, no grain, or no pattern no more sheets are needed; in hope no more than surely.
func TestLarger(t *testing.T) {
	d := dice(18)
	fewer, hoped := 0, 0
	for range 1500 {
		s := d.stock(5, d.roll(3, 9))
		surely, hope := numberOf(t, s, true), numberOf(t, s, false)
		if hope > surely {
			t.Fatal(s, hope, surely)
		}
		if hope < surely {
			hoped++
		}
		easy := d.eased(s)
		for i, before := range []int{hope, surely} {
			after := numberOf(t, easy, i == 1)
			if after > before {
				t.Fatal(s, easy, before, after)
			}
			if after < before {
				fewer++
			}
		}
	}
	if min(fewer, hoped) < 100 {
		t.Error("too rare", fewer, hoped)
	}
}

// easier tells whether a verdict on what fits is at least as good as another one.
func easier(v, than int) bool {
	rank := map[int]int{never: 0, either: 1, always: 2}
	return rank[v] >= rank[than]
}

// P8.12: what fits always fits with fewer blanks, and on larger sheets, too.
func TestFewer(t *testing.T) {
	d := dice(19)
	better := 0
	for range 2500 {
		s := d.stock(5, d.roll(2, 9))
		list := d.list(s)
		if len(list) == 0 {
			continue
		}
		v := must[int](t)(sheet.Fits(s, list))
		i := d.roll(0, len(list)-1)
		less := must[int](t)(sheet.Fits(s, append(slices.Clone(list[:i]), list[i+1:]...)))
		if !easier(less, v) || !easier(must[int](t)(sheet.Fits(d.eased(s), list)), v) {
			t.Fatal(s, list, i, v, less)
		}
		if less != v {
			better++
		}
	}
	if better < 100 {
		t.Error("too rare", better)
	}
}

// P8.13: a stock that is turned needs as many sheets, and the same blanks fit; turned twice it is as it was.
func TestTurned(t *testing.T) {
	d := dice(20)
	for range 800 {
		s, surely := d.stock(5, d.roll(2, 12)), d.often(2)
		turned := must[api.Sheet](t)(sheet.Turn(s))
		if again := must[api.Sheet](t)(sheet.Turn(turned)); !equal(again, s) {
			t.Fatal(s, turned, again)
		}
		one, other := numberOf(t, s, surely), numberOf(t, turned, surely)
		list := d.list(s)
		if one != other || must[int](t)(sheet.Fits(s, list)) != must[int](t)(sheet.Fits(turned, list)) {
			t.Fatal(s, surely, one, other, list)
		}
		if must[int](t)(sheet.Bound(s, surely)) != must[int](t)(sheet.Bound(turned, surely)) {
			t.Fatal(s, surely)
		}
	}
}

// P8.14: with as many blanks as Spare says no more sheets are needed; with one more there are more, or too many blanks.
func TestSpared(t *testing.T) {
	d := dice(21)
	more, many := 0, 0
	for range 1500 {
		s, surely := d.stock(4, d.roll(2, 9)), d.often(2)
		p := d.part(d.roll(1, 4))
		spare, e := sheet.Spare(s, p, surely)
		if e == api.ErrNone {
			continue
		}
		must[int](t)(spare, e)
		number := numberOf(t, s, surely)
		s.Parts = append(s.Parts, slices.Repeat([]api.Part{p}, spare)...)
		if n := numberOf(t, s, surely); n != number {
			t.Fatal(s, p, surely, spare, n, number)
		}
		s.Parts = append(s.Parts, p)
		if sheet.Check(s) == api.ErrMany {
			many++
			continue
		}
		if n := numberOf(t, s, surely); n <= number {
			t.Fatal(s, p, surely, spare, n, number)
		}
		more++
	}
	if min(more, many) < 100 {
		t.Error("too rare", more, many)
	}
}

// P8.15: a blank of Worst is missed just if there are fewer sheets without it.
func TestMissed(t *testing.T) {
	d := dice(22)
	missed := 0
	for range 1200 {
		s := d.stock(5, d.roll(2, 9))
		worst, e := sheet.Worst(s)
		if e == api.ErrNone {
			continue
		}
		number := numberOf(t, s, true)
		for i, v := range must[[]int](t)(worst, e) {
			less := copyOf(s)
			less.Parts = append(less.Parts[:i], less.Parts[i+1:]...)
			n := numberOf(t, less, true)
			if n > number || (n < number) != (v == always) || v == either {
				t.Fatal(s, i, v, n, number)
			}
			if v == always {
				missed++
			}
		}
	}
	if missed < 100 {
		t.Error("too rare", missed)
	}
}

// P8.16: if the blanks come in another order, as many sheets are needed, and the same ones fit.
func TestOrdered(t *testing.T) {
	d := dice(23)
	for range 1000 {
		s, surely := d.stock(5, d.roll(2, 9)), d.often(2)
		order := d.list(s)
		for i := range s.Parts {
			if !slices.Contains(order, i) {
				order = append(order, i)
			}
		}
		other := copyOf(s)
		other.Parts = picked(s, order)
		if one, two := numberOf(t, s, surely), numberOf(t, other, surely); one != two {
			t.Fatal(s, order, one, two)
		}
		list := d.list(other)
		var same []int
		for _, i := range list {
			same = append(same, order[i])
		}
		slices.Sort(same)
		if must[int](t)(sheet.Fits(other, list)) != must[int](t)(sheet.Fits(s, same)) {
			t.Fatal(s, order, list, same)
		}
	}
}
