package batch

import "musette/api"

// known is what is remembered of the truths in which the same lies in the bins.
type known[T any] interface {
	// took returns what is known after something was taken for an instrument.
	took(instrument int, taken bins) T
	// or returns what is known of these truths and of others.
	or(others T) T
}

// nothing is known if it is asked for no more than what lies in the bins.
type nothing struct{}

func (n nothing) took(int, bins) nothing { return n }

func (n nothing) or(nothing) nothing { return n }

// having is which sets of batches an instrument may have.
type having struct {
	instrument int
	sets       choices[batchSet]
}

func (h having) took(instrument int, taken bins) having {
	if instrument == h.instrument {
		h.sets = h.sets.with(batchesOf(taken))
	}
	return h
}

func (h having) or(others having) having {
	h.sets |= others.sets
	return h
}

// batchesOf returns the set of the batches of which something was taken.
func batchesOf(taken bins) batchSet {
	var s batchSet
	for batch, n := range taken {
		if n > 0 {
			s |= 1 << batch
		}
	}
	return s
}

// holders is which sets of instruments may have a batch.
type holders struct {
	batch int
	sets  choices[instrumentSet]
}

func (h holders) took(instrument int, taken bins) holders {
	if taken[h.batch] > 0 {
		h.sets = h.sets.with(1 << instrument)
	}
	return h
}

func (h holders) or(others holders) holders {
	h.sets |= others.sets
	return h
}

// share is how much of a batch an instrument has.
type share struct {
	instrument, batch int
	amount            api.Range
}

func (s share) took(instrument int, taken bins) share {
	if instrument == s.instrument {
		s.amount.Min += taken[s.batch]
		s.amount.Max += taken[s.batch]
	}
	return s
}

func (s share) or(others share) share {
	s.amount = widened(s.amount, others.amount.Min, others.amount.Max)
	return s
}

// widened returns the least range that has some numbers, too.
func widened(r api.Range, numbers ...int) api.Range {
	for _, n := range numbers {
		r.Min, r.Max = min(r.Min, n), max(r.Max, n)
	}
	return r
}
