package batch

import (
	"iter"

	"musette/api"
)

// lost is the instrument of a move of which the slip is lost.
const lost = -1

// bins is how much of each batch lies in the bin that it came into; what is taken out of bins is told in the same way.
type bins [api.MaxBatches]int

// without returns what lies in the bins after something was taken.
func (b bins) without(taken bins) bins {
	for batch, n := range taken {
		b[batch] -= n
	}
	return b
}

// shelf is a bin: which batches came into it, in order, and whether it gives out first what came in first.
type shelf struct {
	batches []int
	first   bool
}

// total returns how much lies in it.
func (s shelf) total(b bins) int {
	sum := 0
	for _, batch := range s.batches {
		sum += b[batch]
	}
	return sum
}

// shelvesOf returns the bins of a journal after some moves.
func shelvesOf(j api.Journal, moves []api.Move) []shelf {
	shelves := make([]shelf, len(j.First))
	for bin, first := range j.First {
		shelves[bin].first = first
	}
	batch := 0
	for _, m := range moves {
		if m.Kind == api.MoveIn {
			shelves[m.Bin].batches = append(shelves[m.Bin].batches, batch)
			batch++
		}
	}
	return shelves
}

// batchesIn returns how many batches come in with some moves.
func batchesIn(moves []api.Move) int {
	batches := 0
	for _, m := range moves {
		if m.Kind == api.MoveIn {
			batches++
		}
	}
	return batches
}

// step is a move of a valid journal, with all that is needed to do it.
type step interface {
	// after hands out what may lie in the bins after it, each once.
	after(lying bins) iter.Seq[bins]
}

// within is the amounts that a move allows.
type within api.Range

// allows tells whether a move may be as much as that.
func (w within) allows(amount int) bool { return w.Min <= amount && amount <= w.Max }

// The kinds of steps: a batch comes in, something goes out for one of some instruments, what lies in a bin is counted.
type (
	coming struct {
		within
		batch int
	}
	going struct {
		within
		shelf
		instruments []int
	}
	counting struct {
		within
		shelf
	}
)

func (c coming) after(lying bins) iter.Seq[bins] {
	return func(yield func(bins) bool) {
		for n := c.Min; n <= c.Max; n++ {
			lying[c.batch] = n
			if !yield(lying) {
				return
			}
		}
	}
}

func (g going) after(lying bins) iter.Seq[bins] {
	return func(yield func(bins) bool) {
		var take func(lying bins, sum int, left []int) bool
		take = func(lying bins, sum int, left []int) bool {
			if len(left) == 0 {
				return !g.allows(sum) || yield(lying)
			}
			batch, there := left[0], lying[left[0]]
			for n := range min(there, g.Max-sum) + 1 {
				lying[batch] = there - n
				if !take(lying, sum+n, g.behind(left, n == there)) {
					return false
				}
			}
			return true
		}
		take(lying, 0, g.batches)
	}
}

// behind returns the batches of which something may be taken, too, after the first one of some, which may be used up.
func (g going) behind(left []int, usedUp bool) []int {
	if g.first && !usedUp {
		return nil
	}
	return left[1:]
}

func (c counting) after(lying bins) iter.Seq[bins] {
	return func(yield func(bins) bool) {
		if c.allows(c.total(lying)) {
			yield(lying)
		}
	}
}

// stepsOf hands out the moves of a valid journal as steps.
func stepsOf(j api.Journal) iter.Seq[step] {
	return func(yield func(step) bool) {
		for i, m := range j.Moves {
			if !yield(stepOf(j, m, j.Moves[:i])) {
				return
			}
		}
	}
}

// stepOf returns a move of a valid journal as a step after others.
func stepOf(j api.Journal, m api.Move, before []api.Move) step {
	from := shelvesOf(j, before)[m.Bin]
	switch m.Kind {
	case api.MoveIn:
		return coming{within(m.Amount), batchesIn(before)}
	case api.MoveOut:
		return going{within(m.Amount), from, instrumentsOf(j, m)}
	}
	return counting{within(m.Amount), from}
}

// instrumentsOf returns all instruments for which a move out may be.
func instrumentsOf(j api.Journal, m api.Move) []int {
	var all []int
	for instrument := range j.Instruments {
		all = append(all, instrument)
	}
	if m.Instrument == lost {
		return all
	}
	return []int{m.Instrument}
}
