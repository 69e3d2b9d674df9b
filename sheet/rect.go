package sheet

import "iter"

// size is how long something is along the sheet, and how wide across.
type size struct{ long, wide int }

// area returns the area of a size.
func (s size) area() int { return s.long * s.wide }

// rect is a rectangle of a sheet: its corner that is nearest to the corner 0, 0, and its size.
type rect struct {
	x, y int
	size
}

// cuts hands out the rectangles on both sides of each straight cut through a rectangle, the one that is nearer to the corner 0, 0 first.
func (r rect) cuts() iter.Seq2[rect, rect] {
	return func(yield func(near, behind rect) bool) {
		for at := 1; at < r.long; at++ {
			near, behind := rect{r.x, r.y, size{at, r.wide}}, rect{r.x + at, r.y, size{r.long - at, r.wide}}
			if !yield(near, behind) {
				return
			}
		}
		for at := 1; at < r.wide; at++ {
			near, behind := rect{r.x, r.y, size{r.long, at}}, rect{r.x, r.y + at, size{r.long, r.wide - at}}
			if !yield(near, behind) {
				return
			}
		}
	}
}

// shared returns what two rectangles have in common; if they have nothing, one of its sides is not above 0. The far ends are not summed up, since a corner may be any number.
func (r rect) shared(other rect) rect {
	x, y := max(r.x, other.x), max(r.y, other.y)
	return rect{x, y, size{
		min(r.long-(x-r.x), other.long-(x-other.x)),
		min(r.wide-(y-r.y), other.wide-(y-other.y)),
	}}
}

// holds tells whether another rectangle lies within a rectangle.
func (r rect) holds(other rect) bool { return r.shared(other) == other }

// blank is a blank that lies in a rectangle: its place in the list of blanks, and whether it is turned.
type blank struct {
	rect
	place  int
	turned bool
}

// moved returns blanks that lie farther away from the corner 0, 0.
func moved(blanks []blank, x, y int) []blank {
	var list []blank
	for _, b := range blanks {
		b.x += x
		b.y += y
		list = append(list, b)
	}
	return list
}

// within returns the blanks that lie within a rectangle.
func within(r rect, blanks []blank) []blank {
	var list []blank
	for _, b := range blanks {
		if r.holds(b.rect) {
			list = append(list, b)
		}
	}
	return list
}

// cut tells whether all blanks in a rectangle can be cut from it. Two that overlap cannot, since no cut leaves them on both of its sides.
func cut(from rect, blanks []blank) bool {
	if len(blanks) < 2 {
		return true
	}
	for near, behind := range from.cuts() {
		some, others := within(near, blanks), within(behind, blanks)
		apart := len(some) > 0 && len(others) > 0 && len(some)+len(others) == len(blanks)
		if apart && cut(near, some) && cut(behind, others) {
			return true
		}
	}
	return false
}
