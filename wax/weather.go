package wax

import (
	"iter"

	"musette/api"
)

// weather is the heat or the damp of each week, 0 after the last one.
type weather [api.MaxWeeks]int

// weathers hands out all weathers that are within the ranges of the weeks.
func weathers(ranges []api.Range) iter.Seq[weather] {
	return func(yield func(weather) bool) {
		var now, end weather
		for week, r := range ranges {
			now[week], end[week] = r.Min, r.Max
		}
		for yield(now) && now != end {
			now = now.next(ranges)
		}
	}
}

// next returns the weather that is handed out after one that is not the last one.
func (w weather) next(ranges []api.Range) weather {
	for week, r := range ranges {
		if w[week] < r.Max {
			w[week]++
			return w
		}
		w[week] = r.Min
	}
	return w
}

// raised returns ranges that are greater by a number, as far as there is such weather.
func raised(ranges []api.Range, by int) []api.Range {
	var list []api.Range
	for _, r := range ranges {
		list = append(list, api.Range{Min: min(r.Min+by, api.MaxWeather), Max: min(r.Max+by, api.MaxWeather)})
	}
	return list
}

// material is what a joint is made of.
type material interface {
	// word returns how it is written.
	word() string
	// felt returns the weather that it feels: a change of it is one of the season.
	felt(s api.Season) []api.Range
}

// wax feels the heat, leather the damp.
type (
	wax     struct{}
	leather struct{}
)

func (wax) word() string                      { return "wax" }
func (wax) felt(s api.Season) []api.Range     { return s.Heats }
func (leather) word() string                  { return "leather" }
func (leather) felt(s api.Season) []api.Range { return s.Damps }

// materialOf returns the material of joints of a valid kind.
func materialOf(kind int) material {
	if kind == api.JointWax {
		return wax{}
	}
	return leather{}
}

// kinds returns all kinds of joints.
func kinds() []int { return []int{api.JointWax, api.JointLeather} }
