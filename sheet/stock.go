package sheet

import (
	"slices"

	"musette/api"
)

// stock is a valid stock, and how long a side of a blank has to be cut along the sheet, and across.
type stock struct {
	api.Sheet
	along, across func(side int) int
}

// stockOf returns a stock whose blanks are cut surely, or in hope.
func stockOf(s api.Sheet, surely bool) stock {
	along, across := s.Along.Min, s.Across.Min
	if surely {
		along, across = s.Along.Max, s.Across.Max
	}
	return stock{
		Sheet:  s,
		along:  func(side int) int { return side + along },
		across: func(side int) int { return side + across },
	}
}

// only returns a stock with some of its blanks, in the order of their list.
func only(s api.Sheet, parts []int) api.Sheet {
	all := s.Parts
	s.Parts = nil
	for _, part := range parts {
		s.Parts = append(s.Parts, all[part])
	}
	return s
}

// wholeOf returns a whole sheet of a stock.
func wholeOf(s api.Sheet) rect { return rect{size: size{s.Long, s.Wide}} }

// size returns the size of a blank on the sheet.
func (s stock) size(p api.Part, turned bool) size {
	if turned {
		return size{s.along(p.Wide), s.across(p.Long)}
	}
	return size{s.along(p.Long), s.across(p.Wide)}
}

// area returns the area of all blanks.
func (s stock) area() int {
	sum := 0
	for _, p := range s.Parts {
		least := s.size(p, false).area()
		if !p.Grain {
			least = min(least, s.size(p, true).area())
		}
		sum += least
	}
	return sum
}

// cuts tells whether all blanks can be cut from a sheet where they are to lie.
func (s stock) cuts(spots []api.Spot) bool {
	var blanks []blank
	for i, spot := range spots {
		p := s.Parts[i]
		b := blank{rect{spot.X, spot.Y, s.size(p, spot.Turned)}, i, spot.Turned}
		if spot.Turned && p.Grain || !wholeOf(s.Sheet).holds(b.rect) {
			return false
		}
		blanks = append(blanks, b)
	}
	return cut(wholeOf(s.Sheet), blanks)
}

// plan is where blanks lie in a rectangle whose corner is 0, 0, if it was found.
type plan struct {
	blanks []blank
	found  bool
}

// plan returns the plan of all blanks on a whole sheet.
func (s stock) plan() plan { return s.planner()(allOf(len(s.Parts))) }

// planner returns a function that returns the plan of a list of blanks on a whole sheet.
func (s stock) planner() func(blanks set) plan {
	known := map[set]map[size]plan{}
	var planned func(blanks set, from size) plan
	planned = func(blanks set, from size) plan {
		if blanks.count() < 2 {
			return s.single(blanks, from)
		}
		if p, ok := known[blanks][from]; ok {
			return p
		}
		var p plan
	search:
		for near, behind := range (rect{size: from}).cuts() {
			for part := range blanks.parts() {
				some := planned(part, near.size)
				if !some.found {
					continue
				}
				if others := planned(blanks.without(part), behind.size); others.found {
					p = plan{slices.Concat(some.blanks, moved(others.blanks, behind.x, behind.y)), true}
					break search
				}
			}
		}
		if known[blanks] == nil {
			known[blanks] = map[size]plan{}
		}
		known[blanks][from] = p
		return p
	}
	return func(blanks set) plan { return planned(blanks, wholeOf(s.Sheet).size) }
}

// single returns the plan of at most one blank: not turned if it fits so.
func (s stock) single(blanks set, from size) plan {
	if blanks.count() == 0 {
		return plan{found: true}
	}
	place := blanks.first()
	p := s.Parts[place]
	for _, turned := range []bool{false, true} {
		r := rect{size: s.size(p, turned)}
		if !(turned && p.Grain) && (rect{size: from}).holds(r) {
			return plan{[]blank{{r, place, turned}}, true}
		}
	}
	return plan{}
}
