package batch

import (
	"slices"

	"musette/api"
)

// kept is a list that is asked for more than once, but looked for only once.
type kept[T any] struct {
	list  []T
	found bool
}

// get returns the list; find looks for it.
func (k *kept[T]) get(find func() []T) []T {
	if !k.found {
		k.list, k.found = find(), true
	}
	return k.list
}

// records is a valid journal that stands, and what was found out about it.
type records struct {
	journal api.Journal
	sets    [api.MaxInstruments]kept[batchSet]
}

// recordsOf returns the records of a journal, or its error.
func recordsOf(j api.Journal) (*records, api.Errno) {
	if e := Check(j); e != api.OK {
		return nil, e
	}
	if !stands(j) {
		return nil, api.ErrAgainst
	}
	return &records{journal: j}, api.OK
}

// setsOf returns all sets of batches that an instrument may have.
func (r *records) setsOf(instrument int) []batchSet {
	return r.sets[instrument].get(func() []batchSet {
		ends, _ := follow(r.journal, having{instrument, empty})
		return slices.Collect(ends.together().sets.all())
	})
}

// verdict tells in which of the sets of all truths something is so.
func verdict[S, A any](sets []S, so func(S, A) bool, about A) int {
	in := 0
	for _, s := range sets {
		if so(s, about) {
			in++
		}
	}
	switch in {
	case len(sets):
		return api.Always
	case 0:
		return api.Never
	}
	return api.Either
}

// asked returns for each instrument of a journal whether something is so of its batches.
func asked[A any](j api.Journal, so func(batchSet, A) bool, about A) ([]int, api.Errno) {
	r, e := recordsOf(j)
	if e != api.OK {
		return nil, e
	}
	var verdicts []int
	for instrument := range j.Instruments {
		verdicts = append(verdicts, verdict(r.setsOf(instrument), so, about))
	}
	return verdicts, api.OK
}

// suspected tells whether a batch explains in a truth of a valid journal that stands what was found of instruments.
func suspected(j api.Journal, batch int, f found) bool {
	ends, _ := follow(j, holders{batch, empty})
	sets := slices.Collect(ends.together().sets.all())
	return verdict(sets, instrumentSet.explains, f) != api.Never
}
