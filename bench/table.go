package bench

import (
	"cmp"
	"slices"

	"musette/api"
)

// slot is a work of a timetable, on which bench it is, and when it may be done.
type slot struct {
	turn
	span
	bench int
}

// sooner compares when two works begin.
func (x slot) sooner(y slot) int { return cmp.Compare(x.begin, y.begin) }

// slotsOf returns the works of a valid timetable, those that begin sooner first.
func slotsOf(s api.Shop, begins [][]int) []slot {
	var list []slot
	for order, t := range s.Tasks {
		for work, w := range t.Works {
			begin := begins[order][work]
			list = append(list, slot{turn{order, work}, span{begin, begin + w.Hours.Max}, w.Bench})
		}
	}
	slices.SortFunc(list, slot.sooner)
	return list
}

// clash returns the first work of a valid timetable that cannot always be done, or ErrNone.
func clash(s api.Shop, begins [][]int) (order, work int, e api.Errno) {
	slots := slotsOf(s, begins)
	for order, t := range s.Tasks {
		free := t.Ready
	works:
		for work, w := range t.Works {
			begin := begins[order][work]
			if begin < free {
				return order, work, api.OK
			}
			free = begin + w.Hours.Max
			for _, other := range slots {
				switch {
				case other.begin >= free:
					continue works // those that come after it begin no sooner
				case other.end > begin && other.bench == w.Bench && other.turn != turn{order, work}:
					return order, work, api.OK
				}
			}
		}
	}
	return 0, 0, api.ErrNone
}
