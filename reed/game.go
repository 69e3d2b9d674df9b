package reed

import (
	"iter"

	"musette/api"
)

// endless is a number of strokes that is more than a tuner ever makes.
const endless = api.MaxGame + 1

// known is what a tuner at work knows who has just read the meter: what the tongue can be, and how many strokes may still be made.
type known struct {
	api.Tongue
	left int
}

// move is the best stroke there is, and how many strokes are needed in the worst case with it: none if the tuner stops, endless if there is no way.
type move struct{ stroke, strokes int }

// Guided returns the fewest strokes with which a tuner at work surely stops.
func Guided(j api.Job) (int, api.Errno) {
	if e := Check(j); e != api.OK {
		return 0, e
	}
	best := player(j)
	strokes := 0
	for pitch := range readings(j.Pitch, j.Meter) {
		t := j.Tongue
		t.Pitch = pitch
		strokes = max(strokes, best(known{t, api.MaxGame}).strokes)
		if strokes == endless {
			return 0, api.ErrNone
		}
	}
	return strokes, api.OK
}

// Next returns the best stroke of a tuner who has read the meter just now, and how many strokes are needed then.
func Next(j api.Job) (stroke, strokes int, e api.Errno) {
	if e := Check(j); e != api.OK {
		return 0, 0, e
	}
	m := player(j)(known{j.Tongue, api.MaxGame})
	if m.strokes == endless {
		return 0, 0, api.ErrNone
	}
	return m.stroke, m.strokes, api.OK
}

// Blank returns which job needs the fewest strokes, and how many it needs.
func Blank(jobs []api.Job) (number, strokes int, e api.Errno) {
	if len(jobs) == 0 {
		return 0, 0, api.ErrFew
	}
	if len(jobs) > api.MaxBlanks {
		return 0, 0, api.ErrMany
	}
	for _, j := range jobs {
		if e := Check(j); e != api.OK {
			return 0, 0, e
		}
	}
	number, strokes, ok := cheapest(jobs, func(j api.Job) (int, bool) {
		strokes, e := Guided(j)
		return strokes, e == api.OK
	})
	if !ok {
		return 0, 0, api.ErrNone
	}
	return number, strokes, api.OK
}

// cheapest returns the place of the first item that costs least, and what it costs; items whose cost is not ok do not count, and if none counts the result is not ok.
func cheapest[T any](items []T, cost func(T) (int, bool)) (place, least int, ok bool) {
	for i, item := range items {
		c, counts := cost(item)
		if counts && (!ok || c < least) {
			place, least, ok = i, c, true
		}
	}
	return place, least, ok
}

// player returns what finds the best move of a tuner who does a valid job. It remembers what it found, because different readings soon lead to the same knowledge.
func player(j api.Job) func(known) move {
	window, _ := windows(j)
	found := map[known]move{}
	var best func(known) move
	best = func(k known) move {
		if holds(window, k.Pitch) {
			return move{}
		}
		if k.left == 0 {
			return move{strokes: endless}
		}
		m, ok := found[k]
		if ok {
			return m
		}
		m = move{strokes: endless}
		w := work{j}
		w.Tongue = k.Tongue
	choices:
		for _, stroke := range [...]int{tip, root} {
			next := w.after([]int{stroke})
			if next.spoiled() != api.Never {
				continue
			}
			worst := 0
			for pitch := range readings(next.Pitch, j.Meter) {
				next.Pitch = pitch
				worst = max(worst, 1+best(known{next.Tongue, k.left - 1}).strokes)
				if worst >= m.strokes {
					continue choices
				}
			}
			m = move{stroke, worst}
		}
		found[k] = m
		return m
	}
	return best
}

// readings yields, for each number that the meter can show, all pitches that are possible then.
func readings(pitch api.Range, meter int) iter.Seq[api.Range] {
	return func(yield func(api.Range) bool) {
		for reading := pitch.Min - meter; reading <= pitch.Max+meter; reading++ {
			if !yield(heard(pitch, reading, meter)) {
				return
			}
		}
	}
}
