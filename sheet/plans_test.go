package sheet_test

import (
	"math"
	"slices"
	"testing"

	"musette/api"
	"musette/sheet"
)

// checkPlan compares the plan of a list with the one in the words of the chapter, and tells whether there is one.
func checkPlan(t *testing.T, s api.Sheet, list []int, surely bool) bool {
	t.Helper()
	want, found := planOf(s, picked(s, list), surely)
	spots, e := sheet.Plan(s, list, surely)
	if e != no(!found, api.ErrNone) || !slices.Equal(spots, want) {
		t.Fatal(s, list, surely, spots, e, want)
	}
	return found
}

// P8.2: plans of random blanks are the first ones that there are, and Fits tells whether there is one, surely and in hope.
func TestPlans(t *testing.T) {
	d := dice(2)
	verdicts, lengths := map[int]int{}, map[int]int{}
	for range 6000 {
		s := d.stock(5, d.roll(1, 8))
		list := d.list(s)
		surely, hoped := checkPlan(t, s, list, true), checkPlan(t, s, list, false)
		v, e := sheet.Fits(s, list)
		if v != verdictOf(surely, hoped) || e != api.OK {
			t.Fatal(s, list, v, e, surely, hoped)
		}
		if len(list) > 1 {
			verdicts[v]++
		}
		if surely {
			lengths[len(list)]++
		}
	}
	if min(verdicts[always], verdicts[never], verdicts[either]) < 200 || min(lengths[0], lengths[1], lengths[2], lengths[3], lengths[4], lengths[5]) < 30 {
		t.Error("too rare", verdicts, lengths)
	}
}

// P8.2: plans of small blanks on small sheets, in each order of the blanks; many of them have room in many ways.
func TestPlansOfOrders(t *testing.T) {
	d := dice(3)
	turned, grown := 0, 0
	for range 300 {
		s := d.stock(4, 5)
		if len(s.Parts) == 0 {
			continue
		}
		for list := range everyList(len(s.Parts), len(s.Parts)-1) {
			if listError(s, list) != api.OK || !checkPlan(t, s, list, false) {
				continue
			}
			for i, at := range must[[]api.Spot](t)(sheet.Plan(s, list, false)) {
				if at.Turned && at.X+at.Y > 0 {
					turned++
				}
				if at.X > 0 && at.Y > 0 && s.Parts[list[i]].Long > 1 {
					grown++
				}
			}
		}
	}
	if min(turned, grown) < 100 {
		t.Error("too rare", turned, grown)
	}
}

// P8.2: single blanks are turned only if they do not fit otherwise, and have to.
func TestPlanOfOne(t *testing.T) {
	for i, c := range []struct {
		s    api.Sheet
		want []api.Spot
	}{
		{plain(3, 2, part(3, 2)), []api.Spot{spot(0, 0, false)}},
		{plain(3, 3, part(3, 2)), []api.Spot{spot(0, 0, false)}},
		{plain(2, 3, part(3, 2)), []api.Spot{spot(0, 0, true)}},
		{plain(2, 3, grain(3, 2)), nil},
		{plain(2, 2, part(3, 2)), nil},
		{plain(12, 1, part(1, 12)), []api.Spot{spot(0, 0, true)}},
		{plain(12, 12, part(12, 12)), []api.Spot{spot(0, 0, false)}},
		{api.Sheet{Long: 12, Wide: 12, Across: to(0, 1), Parts: []api.Part{part(11, 12)}}, []api.Spot{spot(0, 0, true)}},
		{api.Sheet{Long: 12, Wide: 12, Across: to(1, 1), Parts: []api.Part{part(12, 12)}}, nil},
	} {
		spots, e := sheet.Plan(c.s, []int{0}, true)
		if !slices.Equal(spots, c.want) || e != no(c.want == nil, api.ErrNone) {
			t.Error(i, spots, e)
		}
	}
	if spots, e := sheet.Plan(plain(1, 1, part(2, 2)), nil, true); len(spots) > 0 || e != api.OK {
		t.Error(spots, e)
	}
	if v, e := sheet.Fits(plain(1, 1, part(2, 2)), nil); v != always || e != api.OK {
		t.Error(v, e)
	}
}

// P8.2: five blanks that just have room, and four around a hole that have not, though their area is less.
func TestPlanOfMany(t *testing.T) {
	wheel := func(pattern func(long, wide int) api.Part) api.Sheet {
		return plain(3, 3, pattern(2, 1), pattern(1, 2), pattern(2, 1), pattern(1, 2))
	}
	all := []int{0, 1, 2, 3}
	checkPlan(t, wheel(part), all, true)
	if checkPlan(t, wheel(grain), all, true) {
		t.Error("a wheel was cut")
	}
	full := plain(6, 4, grain(4, 1), grain(2, 4), grain(1, 3), part(3, 1), part(2, 3))
	if !checkPlan(t, full, []int{0, 1, 2, 3, 4}, true) || !checkPlan(t, full, []int{4, 3, 2, 1, 0}, true) {
		t.Error("there is room")
	}
}

// P8.3: random spots can be cut just if they can in the words of the chapter.
func TestCutsOfSpots(t *testing.T) {
	d := dice(4)
	met := map[bool]map[int]int{true: {}, false: {}}
	for range 40000 {
		s := d.stock(5, d.roll(1, 12))
		list, surely := d.list(s), d.often(2)
		spots := d.spots(s, list, surely)
		want := canCut(s, picked(s, list), spots, surely)
		if is, e := sheet.Cuts(s, list, spots, surely); is != want || e != api.OK {
			t.Fatal(s, list, spots, surely, is, e)
		}
		met[want][len(list)]++
	}
	for n := 2; n <= 4; n++ {
		if min(met[true][n], met[false][n]) < 100 {
			t.Error("too rare", met)
		}
	}
}

// P8.3: spots near to those of a plan, where few blanks overlap.
func TestCutsOfPlans(t *testing.T) {
	d := dice(5)
	met := map[bool]int{}
	for range 6000 {
		s := d.stock(5, d.roll(4, 12))
		list := d.list(s)
		spots, e := sheet.Plan(s, list, true)
		if e != api.OK || len(list) < 3 {
			continue
		}
		for range 10 {
			near := slices.Clone(spots)
			for i := range near {
				near[i].X += d.roll(0, d.roll(0, d.roll(0, 2)))
				near[i].Y += d.roll(0, d.roll(0, d.roll(0, 2)))
			}
			want := canCut(s, picked(s, list), near, true)
			if is, e := sheet.Cuts(s, list, near, true); is != want || e != api.OK {
				t.Fatal(s, list, near, is, e)
			}
			met[want]++
		}
	}
	if min(met[true], met[false]) < 1000 {
		t.Error("too rare", met)
	}
}

// P8.3: four blanks around a hole cannot be cut, nor can they with a fifth one beside them; three of them can.
func TestCutsOfWheels(t *testing.T) {
	spots := []api.Spot{spot(0, 0, false), spot(2, 0, false), spot(1, 2, false), spot(0, 1, false), spot(11, 0, false)}
	for i, c := range []struct {
		s    api.Sheet
		list []int
		want bool
	}{
		{plain(3, 3, part(2, 1), part(1, 2), part(2, 1), part(1, 2)), []int{0, 1, 2, 3}, false},
		{plain(3, 3, part(2, 1), part(1, 2), part(2, 1), part(1, 2)), []int{0, 1, 2}, true},
		{plain(3, 3, part(2, 1), part(1, 2), part(2, 1), part(1, 2)), []int{1, 2, 3}, true},
		{plain(12, 12, part(2, 1), part(1, 2), part(2, 1), part(1, 2), part(1, 1)), []int{0, 1, 2, 3, 4}, false},
		{plain(12, 12, part(2, 1), part(1, 2), part(1, 1), part(1, 1), part(1, 1)), []int{0, 1, 2, 3, 4}, true},
		{plain(12, 12, part(2, 1), part(1, 2), part(2, 1), part(1, 1), part(1, 1)), []int{0, 1, 2, 3, 4}, true},
	} {
		var at []api.Spot
		for _, i := range c.list {
			at = append(at, spots[i])
		}
		if is, e := sheet.Cuts(c.s, c.list, at, true); is != c.want || e != api.OK {
			t.Error(i, is, e)
		}
	}
}

// P8.3, R5: spots may be anywhere: one blank can be cut just if it lies within the sheet, two also need a cut between them.
func TestCutsAnywhere(t *testing.T) {
	numbers := append([]int{math.MinInt + 2, math.MinInt + 3, math.MinInt + 6, math.MaxInt - 2, math.MaxInt - 3, math.MaxInt - 6}, extremes...)
	s := stockS()
	within := func(n, most int) bool { return n >= 0 && n <= most }
	for _, x := range numbers {
		for _, y := range numbers {
			for _, turned := range []bool{false, true} {
				at := spot(x, y, turned)
				long, wide := sizeOf(s, s.Parts[0], turned, true)
				inside := within(x, s.Long-long) && within(y, s.Wide-wide)
				if is, e := sheet.Cuts(s, []int{0}, []api.Spot{at}, true); is != inside || e != api.OK {
					t.Error(at, is, e)
				}
				want := inside && y == 1 && !turned
				if is, e := sheet.Cuts(s, []int{2, 0}, []api.Spot{spot(0, 0, false), at}, true); is != want || e != api.OK {
					t.Error(at, is, e)
				}
				if is, e := sheet.Cuts(s, []int{0, 2}, []api.Spot{at, at}, true); is || e != api.OK {
					t.Error(at, is, e)
				}
			}
		}
	}
	if is, e := sheet.Cuts(s, []int{1}, []api.Spot{spot(0, 0, true)}, true); is || e != api.OK {
		t.Error(is, e)
	}
}
