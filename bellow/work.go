package bellow

import (
	"slices"

	"musette/api"
)

// work is a bellows at work: what it is, and how much all its corners can leak together, ascending.
type work struct {
	api.Bellow
	sums []int
}

// atWork returns a valid bellows at work, some corners of which are mended, or ErrAgainst if it has no truth.
func atWork(b api.Bellow, mended []int) (work, api.Errno) {
	w := work{Bellow: b}
	for sum := range sums(b, mended) {
		w.sums = append(w.sums, sum)
	}
	if len(w.sums) == 0 {
		return work{}, api.ErrAgainst
	}
	slices.Sort(w.sums)
	w.sums = slices.Compact(w.sums)
	return w, api.OK
}

// taken is a note that is played while all corners leak so much together.
type taken struct {
	api.Note
	leak int
}

// press returns by how much the air in the bellows changes if the note takes so much air per second while it is pressed.
func (t taken) press(air int) int { return -t.pull(air) }

// pull returns the same for a bellows that is pulled.
func (t taken) pull(air int) int { return t.Seconds * (air + t.leak) }

// moves is by how much the air in the bellows changes if a note takes so much air per second, whichever way it is played.
type moves struct{ press, pull func(air int) int }

// movesOf returns the moves of a note.
func movesOf(n api.Note, leak int) moves {
	t := taken{n, leak}
	return moves{press: t.press, pull: t.pull}
}

// by returns the move of a way.
func (m moves) by(way int) func(air int) int {
	if way == api.WayPress {
		return m.press
	}
	return m.pull
}

// inside tells whether a bellows can have so much air.
func (w work) inside(air int) bool { return 0 <= air && air <= w.Full }

// held returns for how many seconds a note can be held that changes the air by so much in each of them.
func (w work) held(air, change int) int {
	seconds := 0
	for seconds < api.MaxHold && w.inside(air+change) {
		air += change
		seconds++
	}
	return seconds
}

// ranges returns how much air there can be after each note of a piece, if it could be below 0 and greater than Full.
func (w work) ranges(p []api.Note, ways []int) []api.Range {
	all := make([]api.Range, len(p))
	for number, sum := range w.sums {
		now := w.Air
		for i, n := range p {
			change := movesOf(n, sum).by(ways[i])
			least, most := change(n.Air.Min), change(n.Air.Max)
			now.Min += min(least, most)
			now.Max += max(least, most)
			if number == 0 {
				all[i] = now
			}
			all[i] = api.Range{Min: min(all[i].Min, now.Min), Max: max(all[i].Max, now.Max)}
		}
	}
	return all
}

// always tells whether a piece can be played by some ways in all truths.
func (w work) always(p []api.Note, ways []int) bool {
	for _, r := range w.ranges(p, ways) {
		if !w.inside(r.Min) || !w.inside(r.Max) {
			return false
		}
	}
	return true
}

// levels is which airs there can be in a bellows.
type levels [api.MaxAir + 1]bool

// sometimes tells whether a piece can be played by some ways in some truth.
func (w work) sometimes(p []api.Note, ways []int) bool {
	ends := map[levels]bool{}
	for _, sum := range w.sums {
		ends[w.end(p, ways, sum)] = true
	}
	delete(ends, levels{})
	return len(ends) > 0
}

// end returns which airs there can be at the end of a piece, as long as the bellows could be played up to there, if all corners leak so much together.
func (w work) end(p []api.Note, ways []int, sum int) levels {
	var now levels
	for air := w.Air.Min; air <= w.Air.Max; air++ {
		now[air] = true
	}
	for i, n := range p {
		now = w.after(now, n, movesOf(n, sum).by(ways[i]))
	}
	return now
}

// after returns which airs there can be after a note that changes them so.
func (w work) after(before levels, n api.Note, change func(air int) int) levels {
	var now levels
	for draw := n.Air.Min; draw <= n.Air.Max; draw++ {
		by := change(draw)
		for air, can := range before {
			if can && w.inside(air+by) {
				now[air+by] = true
			}
		}
	}
	return now
}
