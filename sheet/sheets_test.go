package sheet_test

import (
	"slices"
	"testing"

	"musette/api"
	"musette/sheet"
)

// P8.4: the assignments of random stocks are the first ones with the fewest sheets, and what is left of these is scrap.
func TestSheets(t *testing.T) {
	d := dice(6)
	met := map[int]int{}
	for range 2500 {
		s, surely := d.stock(5, d.roll(1, 9)), d.often(2)
		want, number := fewestOf(s, surely)
		met[number]++
		list, n, e := sheet.Sheets(s, surely)
		scrap, f := sheet.Scrap(s, surely)
		if number < 0 {
			if e != api.ErrNone || f != api.ErrNone {
				t.Fatal(s, surely, list, n, e, f)
			}
			continue
		}
		left := number*s.Long*s.Wide - areaOf(s, s.Parts, surely)
		if !slices.Equal(list, want) || n != number || scrap != left || e != api.OK || f != api.OK {
			t.Fatal(s, surely, list, n, scrap, e, f, want, left)
		}
	}
	if min(met[-1], met[0], met[1], met[2], met[3], met[4]) < 15 {
		t.Error("too rare", met)
	}
}

// P8.4: blanks with the same pattern come from one sheet, with which blanks others share theirs is free.
func TestPatterns(t *testing.T) {
	d := dice(7)
	apart, shared := 0, 0
	for range 2500 {
		s, patterns := plain(d.roll(3, 6), d.roll(1, 3)), d.roll(1, 3)
		for range d.roll(3, 5) {
			s.Parts = append(s.Parts, patterned(d.roll(0, patterns), d.roll(1, 3), d.roll(1, 2)))
		}
		want, number := fewestOf(s, true)
		if number < 0 {
			if list, n, e := sheet.Sheets(s, true); len(list) > 0 || n != 0 || e != api.ErrNone {
				t.Fatal(s, list, n, e)
			}
			continue
		}
		list, n, e := sheet.Sheets(s, true)
		if !slices.Equal(list, want) || n != number || e != api.OK {
			t.Fatal(s, list, n, e, want)
		}
		free := copyOf(s)
		for i := range free.Parts {
			free.Parts[i].Pattern = 0
		}
		other, m, _ := sheet.Sheets(free, true)
		if m < n {
			apart++
		}
		if m == n && !slices.Equal(list, other) {
			shared++
		}
	}
	if min(apart, shared) < 10 {
		t.Error("too rare", apart, shared)
	}
}

// P8.4: of several assignments with as many sheets the first one is returned, and sheets are numbered as they are met.
func TestFirstSheets(t *testing.T) {
	for i, c := range []struct {
		s      api.Sheet
		want   []int
		number int
	}{
		{plain(1, 1, slices.Repeat([]api.Part{part(1, 1)}, 5)...), []int{0, 1, 2, 3, 4}, 5},
		{plain(5, 1, slices.Repeat([]api.Part{part(1, 1)}, 5)...), []int{0, 0, 0, 0, 0}, 1},
		{plain(2, 1, slices.Repeat([]api.Part{part(1, 1)}, 5)...), []int{0, 0, 1, 1, 2}, 3},
		{plain(3, 1, part(2, 1), part(1, 1), part(1, 1), part(2, 1)), []int{0, 0, 1, 1}, 2},
		{plain(3, 1, part(2, 1), part(2, 1), part(1, 1), part(1, 1)), []int{0, 1, 0, 1}, 2},
		{plain(3, 1, part(1, 1), part(1, 1), part(2, 1), part(2, 1)), []int{0, 1, 0, 1}, 2},
		{plain(3, 1, part(2, 1), part(2, 1), patterned(1, 1, 1), part(1, 1), patterned(1, 2, 1)), []int{0, 1, 2, 0, 2}, 3},
		{plain(3, 1, patterned(3, 1, 1), part(2, 1), patterned(2, 1, 1), patterned(3, 2, 1), patterned(2, 1, 1)), []int{0, 1, 2, 0, 2}, 3},
	} {
		if list, n, e := sheet.Sheets(c.s, true); !slices.Equal(list, c.want) || n != c.number || e != api.OK {
			t.Error(i, list, n, e)
		}
	}
}

// P8.5: Bound is the least number of sheets with enough area, whether there is an assignment or not.
func TestBound(t *testing.T) {
	d := dice(8)
	met := map[int]int{}
	for range 5000 {
		s, surely := d.stock(5, 12), d.often(2)
		if d.often(2) {
			s.Long, s.Wide = d.roll(1, 12), d.roll(1, 3)
		}
		want := 0
		for want*s.Long*s.Wide < areaOf(s, s.Parts, surely) {
			want++
		}
		if n, e := sheet.Bound(s, surely); n != want || e != api.OK {
			t.Fatal(s, surely, n, e, want)
		}
		met[want]++
	}
	if min(met[0], met[1], met[2], met[3], met[4]) < 50 {
		t.Error("too rare", met)
	}
	for i, c := range []struct {
		s    api.Sheet
		want int
	}{
		{plain(1, 1, slices.Repeat([]api.Part{part(12, 12)}, 5)...), 720},
		{plain(5, 1, part(5, 1)), 1},
		{plain(5, 1, part(5, 1), part(1, 1)), 2},
		{plain(5, 1, part(1, 4), part(1, 1)), 1},
		{api.Sheet{Long: 3, Wide: 3, Across: to(2, 2), Parts: []api.Part{part(1, 1), part(1, 3)}}, 1}, // 1 x 3, and 3 x 3 if it is turned
		{api.Sheet{Long: 3, Wide: 3, Across: to(2, 2), Parts: []api.Part{part(1, 1), part(3, 1)}}, 1},
		{api.Sheet{Long: 3, Wide: 3, Across: to(2, 2), Parts: []api.Part{part(1, 1), grain(3, 1)}}, 2},
	} {
		if n, e := sheet.Bound(c.s, true); n != c.want || e != api.OK {
			t.Error(i, n, e)
		}
	}
}

// spareOf returns how many blanks more there is room for: all numbers are looked at.
func spareOf(s api.Sheet, p api.Part, surely bool) int {
	_, number := fewestOf(s, surely)
	best := 0
	for more := 1; len(s.Parts)+more <= 5; more++ {
		longer := copyOf(s)
		longer.Parts = append(longer.Parts, slices.Repeat([]api.Part{p}, more)...)
		if _, n := fewestOf(longer, surely); n >= 0 && n <= number {
			best = more
		}
	}
	return best
}

// P8.5: Spare of random stocks and blanks.
func TestSpare(t *testing.T) {
	d := dice(9)
	met := map[int]int{}
	for range 1000 {
		s, surely := d.stock(d.roll(1, 5), d.roll(1, 7)), d.often(2)
		p := d.part(d.roll(1, 5))
		if _, number := fewestOf(s, surely); number < 0 {
			continue
		}
		want := spareOf(s, p, surely)
		if n, e := sheet.Spare(s, p, surely); n != want || e != api.OK {
			t.Fatal(s, p, surely, n, e, want)
		}
		met[want]++
	}
	if min(met[0], met[1], met[2], met[3], met[4]) < 10 {
		t.Error("too rare", met)
	}
}

// P8.5: without blanks no sheet is needed, so that there is no room; with five of them there may be no more.
func TestSpareEnds(t *testing.T) {
	five := slices.Repeat([]api.Part{part(1, 1)}, 5)
	for i, c := range []struct {
		s    api.Sheet
		p    api.Part
		want int
	}{
		{plain(12, 12), part(1, 1), 0},
		{plain(12, 12, five[:1]...), part(1, 1), 4},
		{plain(12, 12, five[:4]...), part(1, 1), 1},
		{plain(12, 12, five...), part(1, 1), 0},
		{plain(12, 12, five[:1]...), part(12, 12), 0},
		{plain(2, 2, five[:1]...), part(1, 1), 3},
		{plain(2, 2, five[:1]...), part(12, 12), 0},
		{plain(2, 2, part(2, 2), part(1, 1)), part(2, 1), 1},
		{plain(2, 2, part(2, 2), part(1, 1)), patterned(1, 2, 1), 1},
		{plain(2, 2, patterned(1, 2, 2), part(1, 1)), patterned(1, 1, 1), 0},
		{plain(2, 2, part(2, 2), patterned(1, 1, 1)), patterned(1, 1, 1), 3},
		{plain(2, 2, grain(1, 2), part(2, 2)), grain(2, 1), 0},
		{plain(2, 2, grain(1, 2), part(2, 2)), part(2, 1), 1},
		{plain(2, 2, part(1, 2), part(2, 2)), grain(2, 1), 1},
	} {
		if n, e := sheet.Spare(c.s, c.p, true); n != c.want || e != api.OK {
			t.Error(i, n, e)
		}
	}
}

// P8.5: Worst of random stocks.
func TestWorst(t *testing.T) {
	d := dice(10)
	met := map[int]int{}
	for range 1500 {
		s := d.stock(5, d.roll(1, 8))
		_, number := fewestOf(s, true)
		if number < 0 {
			continue
		}
		var want []int
		for i := range s.Parts {
			less := copyOf(s)
			less.Parts = append(less.Parts[:i], less.Parts[i+1:]...)
			v := never
			if _, n := fewestOf(less, true); n < number {
				v = always
			}
			met[v]++
			want = append(want, v)
		}
		if list, e := sheet.Worst(s); !slices.Equal(list, want) || e != api.OK {
			t.Fatal(s, list, e, want)
		}
	}
	if min(met[always], met[never]) < 200 {
		t.Error("too rare", met)
	}
}

// P8.5: Turn exchanges both sides of all, and nothing else.
func TestTurn(t *testing.T) {
	d := dice(11)
	for range 1000 {
		s := d.stock(5, 12)
		x, e := sheet.Turn(s)
		want := api.Sheet{Long: s.Wide, Wide: s.Long, Along: s.Across, Across: s.Along}
		for _, p := range s.Parts {
			want.Parts = append(want.Parts, api.Part{Long: p.Wide, Wide: p.Long, Grain: p.Grain, Pattern: p.Pattern})
		}
		if !equal(x, want) || e != api.OK {
			t.Fatal(s, x, e)
		}
	}
}
