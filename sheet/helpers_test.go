package sheet_test

import (
	"iter"
	"slices"
	"testing"

	"musette/api"
	"musette/sheet"
)

const (
	always = api.Always
	never  = api.Never
	either = api.Either
)

// to returns a range, part a blank, grain one that is not turned, spot a spot, plain a stock of blanks that do not shrink.
func to(least, most int) api.Range { return api.Range{Min: least, Max: most} }

func part(long, wide int) api.Part { return api.Part{Long: long, Wide: wide} }

func grain(long, wide int) api.Part { return api.Part{Long: long, Wide: wide, Grain: true} }

func spot(x, y int, turned bool) api.Spot { return api.Spot{X: x, Y: y, Turned: turned} }

func plain(long, wide int, parts ...api.Part) api.Sheet {
	return api.Sheet{Long: long, Wide: wide, Parts: parts}
}

// patterned returns a blank that needs a pattern.
func patterned(pattern, long, wide int) api.Part {
	return api.Part{Long: long, Wide: wide, Pattern: pattern}
}

// stockS is the stock S of the chapter's examples, stockT the stock T.
func stockS() api.Sheet {
	return api.Sheet{Long: 6, Wide: 3, Along: to(0, 1), Parts: []api.Part{part(3, 2), grain(2, 3), part(4, 1)}}
}

func stockT() api.Sheet {
	return but(func(s *api.Sheet) { s.Parts[0].Pattern, s.Parts[2].Pattern = 1, 1 })
}

// but returns the stock S after a change.
func but(change func(s *api.Sheet)) api.Sheet {
	s := stockS()
	change(&s)
	return s
}

// copyOf returns a stock that shares no memory with the first one.
func copyOf(s api.Sheet) api.Sheet {
	s.Parts = slices.Clone(s.Parts)
	return s
}

// equal tells whether two stocks are the same.
func equal(a, b api.Sheet) bool {
	return a.Long == b.Long && a.Wide == b.Wide && a.Along == b.Along && a.Across == b.Across && slices.Equal(a.Parts, b.Parts)
}

// isZero tells whether a stock is the zero value, but for empty slices.
func isZero(s api.Sheet) bool { return equal(s, api.Sheet{}) }

// must returns what takes a result without an error, and ends the test otherwise.
func must[T any](t *testing.T) func(result T, e api.Errno) T {
	return func(result T, e api.Errno) T {
		t.Helper()
		if e != api.OK {
			t.Fatal(result, e)
		}
		return result
	}
}

// numberOf returns how many sheets are needed, or a very high number if there is no assignment.
func numberOf(t *testing.T, s api.Sheet, surely bool) int {
	t.Helper()
	_, number, e := sheet.Sheets(s, surely)
	if e == api.ErrNone {
		return 1 << 30
	}
	return must[int](t)(number, e)
}

// dice gives numbers that look random but are the same in each run.
type dice uint64

// roll returns a number from least to most.
func (d *dice) roll(least, most int) int {
	*d = *d*6364136223846793005 + 1442695040888963407
	return least + int(uint64(*d)>>33)%(most-least+1)
}

// often tells whether one of so many throws is the right one.
func (d *dice) often(of int) bool { return d.roll(1, of) == 1 }

// part returns a blank with sides of at most so many centimetres.
func (d *dice) part(side int) api.Part {
	p := api.Part{Long: d.roll(1, side), Wide: d.roll(1, side), Grain: d.often(3)}
	if d.often(3) {
		p.Pattern = d.roll(1, 3)
	}
	return p
}

// stock returns a stock with at most so many blanks, and sheets with sides of at most so many centimetres.
func (d *dice) stock(parts, side int) api.Sheet {
	s := plain(d.roll(1, side), d.roll(1, side))
	if side > 1 && !d.often(3) { // one side alone makes most blanks too large
		s.Long, s.Wide = d.roll((side+1)/2, side), d.roll((side+1)/2, side)
	}
	for _, r := range []*api.Range{&s.Along, &s.Across} {
		if d.often(2) {
			r.Min = d.roll(0, d.roll(0, 2))
			r.Max = d.roll(r.Min, 2)
		}
	}
	most := d.roll(1, min(12, max(s.Long, s.Wide)))
	for range d.roll(d.roll(0, parts), parts) {
		s.Parts = append(s.Parts, d.part(most))
	}
	return s
}

// list returns some blanks of a stock, in some order.
func (d *dice) list(s api.Sheet) []int {
	list := make([]int, len(s.Parts))
	for i := range list {
		list[i] = i
	}
	for i := range list {
		j := d.roll(i, len(list)-1)
		list[i], list[j] = list[j], list[i]
	}
	return list[:d.roll(d.roll(0, len(list)), len(list))]
}

// spots returns a spot within the sheet, or near to it, for each blank of a list.
func (d *dice) spots(s api.Sheet, list []int, surely bool) []api.Spot {
	var spots []api.Spot
	for _, i := range list {
		at := api.Spot{Turned: d.often(2) && (!s.Parts[i].Grain || d.often(20))}
		long, wide := sizeOf(s, s.Parts[i], at.Turned, surely)
		at.X, at.Y = d.roll(0, max(0, s.Long-long)), d.roll(0, max(0, s.Wide-wide))
		if d.often(20) {
			at.X += d.roll(-1, 1)
			at.Y += d.roll(-1, 1)
		}
		spots = append(spots, at)
	}
	return spots
}

// picked returns the blanks of a list.
func picked(s api.Sheet, list []int) []api.Part {
	var parts []api.Part
	for _, i := range list {
		parts = append(parts, s.Parts[i])
	}
	return parts
}

// everyList hands out all lists of so many numbers from 0 to most, in lexicographic order.
func everyList(length, most int) iter.Seq[[]int] {
	return func(yield func([]int) bool) {
		list := make([]int, length)
		for yield(slices.Clone(list)) {
			place := length - 1
			for place >= 0 && list[place] == most {
				list[place] = 0
				place--
			}
			if place < 0 {
				return
			}
			list[place]++
		}
	}
}

// sizeOf returns the size of a blank, in the words of the chapter.
func sizeOf(s api.Sheet, p api.Part, turned, surely bool) (long, wide int) {
	if turned {
		p.Long, p.Wide = p.Wide, p.Long
	}
	if surely {
		return p.Long + s.Along.Max, p.Wide + s.Across.Max
	}
	return p.Long + s.Along.Min, p.Wide + s.Across.Min
}

// areaOf returns the area of all these blanks.
func areaOf(s api.Sheet, parts []api.Part, surely bool) int {
	sum := 0
	for _, p := range parts {
		long, wide := sizeOf(s, p, false, surely)
		area := long * wide
		if long, wide = sizeOf(s, p, true, surely); !p.Grain {
			area = min(area, long*wide)
		}
		sum += area
	}
	return sum
}

// box is a rectangle by its ends, along and across.
type box struct{ left, right, low, high int }

// boxOf returns where a blank lies.
func boxOf(s api.Sheet, p api.Part, at api.Spot, surely bool) box {
	long, wide := sizeOf(s, p, at.Turned, surely)
	return box{at.X, at.X + long, at.Y, at.Y + wide}
}

// overlap tells whether two boxes have a centimetre in common.
func overlap(a, b box) bool {
	return a.left < b.right && b.left < a.right && a.low < b.high && b.low < a.high
}

// canCut tells whether spots of blanks can be cut, in the words of the chapter.
func canCut(s api.Sheet, parts []api.Part, spots []api.Spot, surely bool) bool {
	var boxes []box
	for i, p := range parts {
		b := boxOf(s, p, spots[i], surely)
		if b.left < 0 || b.low < 0 || b.right > s.Long || b.high > s.Wide || p.Grain && spots[i].Turned {
			return false
		}
		if slices.ContainsFunc(boxes, func(other box) bool { return overlap(b, other) }) {
			return false
		}
		boxes = append(boxes, b)
	}
	return sawn(box{0, s.Long, 0, s.Wide}, boxes)
}

// sawn tells whether a box with other boxes in it can be cut.
func sawn(b box, boxes []box) bool {
	if len(boxes) < 2 {
		return true
	}
	for at := b.left + 1; at < b.right; at++ {
		near, behind, ok := apart(boxes, func(b box) (int, int) { return b.left, b.right }, at)
		if ok && sawn(box{b.left, at, b.low, b.high}, near) && sawn(box{at, b.right, b.low, b.high}, behind) {
			return true
		}
	}
	for at := b.low + 1; at < b.high; at++ {
		near, behind, ok := apart(boxes, func(b box) (int, int) { return b.low, b.high }, at)
		if ok && sawn(box{b.left, b.right, b.low, at}, near) && sawn(box{b.left, b.right, at, b.high}, behind) {
			return true
		}
	}
	return false
}

// apart returns the boxes on both sides of a cut, and whether it goes through none and leaves some on both sides.
func apart(boxes []box, ends func(box) (int, int), at int) (near, behind []box, ok bool) {
	for _, b := range boxes {
		switch from, to := ends(b); {
		case to <= at:
			near = append(near, b)
		case from >= at:
			behind = append(behind, b)
		default:
			return nil, nil, false
		}
	}
	return near, behind, len(near) > 0 && len(behind) > 0
}

// planIn returns the plan of blanks in a box, in the words of the chapter.
func planIn(s api.Sheet, parts []api.Part, b box, surely bool) ([]api.Spot, bool) {
	switch {
	case len(parts) == 0:
		return nil, true
	case len(parts) == 1:
		for _, turned := range []bool{false, true} {
			at := spot(b.left, b.low, turned)
			own := boxOf(s, parts[0], at, surely)
			if own.right <= b.right && own.high <= b.high && !(turned && parts[0].Grain) {
				return []api.Spot{at}, true
			}
		}
		return nil, false
	case areaOf(s, parts, surely) > (b.right-b.left)*(b.high-b.low):
		return nil, false // there is no room, so that this needs no search
	}
	for at := b.left + 1; at < b.right; at++ {
		if spots, ok := splitIn(s, parts, box{b.left, at, b.low, b.high}, box{at, b.right, b.low, b.high}, surely); ok {
			return spots, true
		}
	}
	for at := b.low + 1; at < b.high; at++ {
		if spots, ok := splitIn(s, parts, box{b.left, b.right, b.low, at}, box{b.left, b.right, at, b.high}, surely); ok {
			return spots, true
		}
	}
	return nil, false
}

// splitIn returns the plan of blanks of which some are in the nearer box, and the others in the one behind.
func splitIn(s api.Sheet, parts []api.Part, near, behind box, surely bool) ([]api.Spot, bool) {
	for sum := 1; sum < 1<<len(parts)-1; sum++ {
		var some, others []api.Part
		for i, p := range parts {
			if sum>>i%2 == 1 {
				some = append(some, p)
			} else {
				others = append(others, p)
			}
		}
		one, ok := planIn(s, some, near, surely)
		if !ok {
			continue
		}
		other, ok := planIn(s, others, behind, surely)
		if !ok {
			continue
		}
		var spots []api.Spot
		for i := range parts {
			if sum>>i%2 == 1 {
				spots, one = append(spots, one[0]), one[1:]
			} else {
				spots, other = append(spots, other[0]), other[1:]
			}
		}
		return spots, true
	}
	return nil, false
}

// planOf returns the plan of blanks on a whole sheet.
func planOf(s api.Sheet, parts []api.Part, surely bool) ([]api.Spot, bool) {
	return planIn(s, parts, box{0, s.Long, 0, s.Wide}, surely)
}

// assignmentsOf hands out all assignments of a stock in lexicographic order, and how many sheets they have: lists of which each is looked at.
func assignmentsOf(s api.Sheet, surely bool) iter.Seq2[[]int, int] {
	known := map[int]bool{}
	fits := func(parts []api.Part, key int) bool {
		if _, ok := known[key]; !ok {
			_, known[key] = planOf(s, parts, surely)
		}
		return known[key]
	}
	return func(yield func([]int, int) bool) {
		for list := range everyList(len(s.Parts), max(0, len(s.Parts)-1)) {
			number, ok := 0, true
			for i, on := range list {
				ok = ok && on <= number
				number = max(number, on+1)
				for j, other := range list[:i] {
					if p := s.Parts[i].Pattern; p > 0 && p == s.Parts[j].Pattern {
						ok = ok && on == other
					}
				}
			}
			for on := 0; ok && on < number; on++ {
				var parts []api.Part
				key := 0
				for i := range list {
					if list[i] == on {
						parts, key = append(parts, s.Parts[i]), key+1<<i
					}
				}
				ok = fits(parts, key)
			}
			if ok && !yield(list, number) {
				return
			}
		}
	}
}

// fewestOf returns the assignment that Sheets has to return, and how many sheets it has (-1 if there is none).
func fewestOf(s api.Sheet, surely bool) (best []int, number int) {
	number = -1
	for list, n := range assignmentsOf(s, surely) {
		if number < 0 || n < number {
			best, number = list, n
		}
	}
	return best, number
}

// verdictOf returns the verdict on what is so surely, and in hope.
func verdictOf(surely, hoped bool) int {
	switch {
	case surely:
		return always
	case hoped:
		return either
	}
	return never
}
