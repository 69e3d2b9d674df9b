package batch_test

import (
	"iter"
	"slices"
	"testing"

	"musette/api"
)

const (
	always = api.Always
	never  = api.Never
	either = api.Either
	lost   = -1
)

// to returns a range; in, out and count return moves.
func to(least, most int) api.Range { return api.Range{Min: least, Max: most} }

func in(bin, least, most int) api.Move {
	return api.Move{Kind: api.MoveIn, Bin: bin, Amount: to(least, most)}
}

func out(bin, instrument, least, most int) api.Move {
	return api.Move{Kind: api.MoveOut, Bin: bin, Instrument: instrument, Amount: to(least, most)}
}

func count(bin, least, most int) api.Move {
	return api.Move{Kind: api.MoveCount, Bin: bin, Amount: to(least, most)}
}

// of returns a journal; a letter f or a stands for each bin.
func of(instruments int, bins string, moves ...api.Move) api.Journal {
	j := api.Journal{Instruments: instruments, Moves: moves}
	for _, letter := range bins {
		j.First = append(j.First, letter == 'f')
	}
	return j
}

// journalJ, journalK and journalL are the journals of the chapter's examples.
func journalJ() api.Journal {
	return of(3, "fa", in(0, 2, 3), in(0, 2, 2), out(0, 0, 1, 1), out(0, 1, 2, 2), out(0, 2, 1, 1))
}

func journalK() api.Journal { return more(journalJ(), count(0, 1, 1)) }

func journalL() api.Journal {
	return of(3, "fa", in(1, 2, 2), in(1, 1, 1), out(1, 0, 1, 1), out(1, lost, 1, 1))
}

// but returns the journal J after a change.
func but(change func(j *api.Journal)) api.Journal { return after(journalJ(), change) }

// after returns a journal after a change; more returns one with more moves.
func after(j api.Journal, change func(j *api.Journal)) api.Journal {
	j = copyOf(j)
	change(&j)
	return j
}

func more(j api.Journal, moves ...api.Move) api.Journal {
	return after(j, func(j *api.Journal) { j.Moves = append(j.Moves, moves...) })
}

// copyOf returns a journal that shares no memory with the first one.
func copyOf(j api.Journal) api.Journal {
	j.First, j.Moves = slices.Clone(j.First), slices.Clone(j.Moves)
	return j
}

// equal tells whether two journals are the same.
func equal(a, b api.Journal) bool {
	return a.Instruments == b.Instruments && slices.Equal(a.First, b.First) && slices.Equal(a.Moves, b.Moves)
}

// isZero tells whether a journal is the zero value, but for empty slices.
func isZero(j api.Journal) bool { return equal(j, api.Journal{}) }

// must returns what takes a result without an error, and ends the test otherwise.
func must[T any](t *testing.T) func(result T, e api.Errno) T {
	return func(result T, e api.Errno) T {
		t.Helper()
		if e != api.OK {
			t.Fatal(result, e)
		}
		return result
	}
}

// batchesOf returns how many batches come in.
func batchesOf(j api.Journal) int {
	batches := 0
	for _, m := range j.Moves {
		if m.Kind == api.MoveIn {
			batches++
		}
	}
	return batches
}

// dice gives numbers that look random but are the same in each run.
type dice uint64

// roll returns a number from least to most.
func (d *dice) roll(least, most int) int {
	*d = *d*6364136223846793005 + 1442695040888963407
	return least + int(uint64(*d)>>33)%(most-least+1)
}

// often tells once in so many times that something is so.
func (d *dice) often(times int) bool { return d.roll(1, times) == 1 }

// once returns 1 once in so many times, and 0 otherwise.
func (d *dice) once(times int) int {
	if d.often(times) {
		return 1
	}
	return 0
}

// around returns a range that has a number, and is not wider than so much on each side.
func (d *dice) around(n, wide int) api.Range {
	return to(max(0, n-d.roll(0, wide)), min(api.MaxAmount, n+d.roll(0, wide)))
}

// truth is how much of which batch each move brought or took, for whom it was, what is left of each batch, and how much of which batch each instrument has.
type truth struct {
	took []amounts
	whom []int
	left amounts
	has  [api.MaxInstruments]amounts
}

// amounts is an amount of each batch.
type amounts [api.MaxBatches]int

func (a amounts) sum() int { return a[0] + a[1] + a[2] + a[3] }

// with returns the truth after a move.
func (x truth) with(m api.Move, took amounts, whom int) truth {
	x.took = append(slices.Clone(x.took), took)
	x.whom = append(slices.Clone(x.whom), whom)
	for b, n := range took {
		switch m.Kind {
		case api.MoveIn:
			x.left[b] += n
		case api.MoveOut:
			x.left[b] -= n
			x.has[whom][b] += n
		}
	}
	return x
}

// inBin returns all batches that came into a bin with some moves.
func inBin(moves []api.Move, bin int) []int {
	var list []int
	batch := 0
	for _, m := range moves {
		if m.Kind == api.MoveIn {
			if m.Bin == bin {
				list = append(list, batch)
			}
			batch++
		}
	}
	return list
}

// lies returns how much lies in a bin.
func (x truth) lies(moves []api.Move, bin int) int {
	sum := 0
	for _, b := range inBin(moves, bin) {
		sum += x.left[b]
	}
	return sum
}

// can tells whether so much of each batch may be taken by a move after others, in the words of the chapter.
func (x truth) can(j api.Journal, at int, took amounts) bool {
	bin := j.Moves[at].Bin
	there := inBin(j.Moves[:at], bin)
	for b, n := range took {
		if n > x.left[b] || n > 0 && !slices.Contains(there, b) {
			return false
		}
		for _, before := range there {
			if j.First[bin] && n > 0 && before < b && x.left[before] > took[before] {
				return false
			}
		}
	}
	return true
}

// takes hands out all ways to take from nothing to so much of the batches.
func takes(most int) iter.Seq[amounts] {
	return func(yield func(amounts) bool) {
		var a amounts
		for a[0] = 0; a[0] <= most; a[0]++ {
			for a[1] = 0; a[0]+a[1] <= most; a[1]++ {
				for a[2] = 0; a[0]+a[1]+a[2] <= most; a[2]++ {
					for a[3] = 0; a.sum() <= most; a[3]++ {
						if !yield(a) {
							return
						}
					}
				}
			}
		}
	}
}

// truths hands out all truths of a journal, in the words of the chapter.
func truths(j api.Journal) iter.Seq[truth] {
	return func(yield func(truth) bool) {
		var walk func(at int, x truth) bool
		walk = func(at int, x truth) bool {
			if at == len(j.Moves) {
				return yield(x)
			}
			for next := range x.next(j, at) {
				if !walk(at+1, next) {
					return false
				}
			}
			return true
		}
		walk(0, truth{})
	}
}

// next hands out all truths after one more move.
func (x truth) next(j api.Journal, at int) iter.Seq[truth] {
	return func(yield func(truth) bool) {
		m := j.Moves[at]
		switch m.Kind {
		case api.MoveIn:
			for n := m.Amount.Min; n <= m.Amount.Max; n++ {
				var came amounts
				came[batchesOf(api.Journal{Moves: j.Moves[:at]})] = n
				if !yield(x.with(m, came, lost)) {
					return
				}
			}
		case api.MoveCount:
			if inside(x.lies(j.Moves[:at], m.Bin), m.Amount) {
				yield(x.with(m, amounts{}, lost))
			}
		case api.MoveOut:
			for took := range takes(m.Amount.Max) {
				for whom := range j.Instruments {
					if took.sum() >= m.Amount.Min && x.can(j, at, took) && (m.Instrument == whom || m.Instrument == lost) && !yield(x.with(m, took, whom)) {
						return
					}
				}
			}
		}
	}
}

// inside tells whether a number is in a range.
func inside(n int, r api.Range) bool { return r.Min <= n && n <= r.Max }

// story returns a journal of so many moves, of at most so much each, and a truth of it. What is told of an amount is not more exact than wide.
func (d *dice) story(moves, most, wide int) (api.Journal, truth) {
	j := of(d.roll(1, 4), []string{"f", "a", "ff", "fa", "af", "aa"}[d.roll(0, 5)])
	var x truth
	for at := range moves {
		m := api.Move{Kind: d.kind(j), Bin: d.roll(0, len(j.First)-1)}
		lies := x.lies(j.Moves, m.Bin)
		if m.Kind == api.MoveCount && lies > api.MaxAmount {
			m.Kind = api.MoveOut
		}
		var took amounts
		whom := lost
		switch m.Kind {
		case api.MoveIn:
			n := d.roll(0, most)
			took[batchesOf(j)], m.Amount = n, d.around(n, wide)
		case api.MoveOut:
			whom = d.roll(0, j.Instruments-1)
			if m.Instrument = whom; d.often(4) {
				m.Instrument = lost
			}
			took = d.take(x.left, inBin(j.Moves, m.Bin), j.First[m.Bin], d.roll(0, min(lies, most)))
			m.Amount = d.around(took.sum(), wide)
		case api.MoveCount:
			m.Amount = d.around(lies, wide)
		}
		j.Moves = append(j.Moves, m)
		if m.Kind == api.MoveOut && !x.can(j, at, took) {
			panic("not a truth")
		}
		x = x.with(m, took, whom)
	}
	return j, x
}

// kind returns the kind of the next move.
func (d *dice) kind(j api.Journal) int {
	batches := batchesOf(j)
	switch {
	case len(j.Moves) == 0 && !d.often(10), batches < api.MaxBatches && d.often(3):
		return api.MoveIn
	case d.often(4):
		return api.MoveCount
	}
	return api.MoveOut
}

// take returns so many units of what is left of some batches.
func (d *dice) take(left amounts, batches []int, first bool, number int) amounts {
	var took amounts
	for range number {
		var there []int
		for _, b := range batches {
			if left[b] > took[b] {
				there = append(there, b)
			}
		}
		b := there[0]
		if !first {
			b = there[d.roll(0, len(there)-1)]
		}
		took[b]++
	}
	return took
}

// journal returns a journal that may contradict itself.
func (d *dice) journal(moves, most, wide int) api.Journal {
	j, _ := d.story(moves, most, wide)
	for range d.roll(0, 2) {
		if at := d.roll(0, moves); at < moves {
			n := d.roll(0, most)
			j.Moves[at].Amount = to(n, min(n+d.roll(0, wide), api.MaxAmount))
		}
	}
	return j
}

// set returns some of so many numbers.
func (d *dice) set(number int) []int {
	var set []int
	for n := range number {
		if d.often(2) {
			set = append(set, n)
		}
	}
	return set
}

// sets hands out all sets of so many numbers.
func sets(number int) iter.Seq[[]int] {
	return func(yield func([]int) bool) {
		for mask := range 1 << number {
			var set []int
			for n := range number {
				if mask>>n&1 == 1 {
					set = append(set, n)
				}
			}
			if !yield(set) {
				return
			}
		}
	}
}

// verdictOf returns the verdict on what is so in so many of all truths.
func verdictOf(so, all int) int {
	switch so {
	case all:
		return always
	case 0:
		return never
	}
	return either
}

// said is what is counted of truths: in how many of them an instrument has just some of the batches, and just some of the instruments have a batch (by masks), and all ranges.
type said struct {
	truths     int
	left, rest []api.Range
	shares     [api.MaxInstruments][api.MaxBatches]api.Range
	had        [api.MaxInstruments][16]int
	by         [api.MaxBatches][16]int
}

// saidOf returns what all truths of a journal say; it tells whether they are no more than so many.
func saidOf(j api.Journal, most int) (said, bool) {
	s := said{left: make([]api.Range, len(j.First)), rest: make([]api.Range, batchesOf(j))}
	for x := range truths(j) {
		s.add(j, x)
		if s.truths > most {
			return s, false
		}
	}
	return s, true
}

// add adds a truth.
func (s *said) add(j api.Journal, x truth) {
	for bin := range s.left {
		s.widen(&s.left[bin], x.lies(j.Moves, bin))
	}
	var by [api.MaxBatches]int
	for b := range s.rest {
		s.widen(&s.rest[b], x.left[b])
		for i := range j.Instruments {
			s.widen(&s.shares[i][b], x.has[i][b])
			by[b] |= min(1, x.has[i][b]) << i
		}
		s.by[b][by[b]]++
	}
	for i := range j.Instruments {
		mask := 0
		for b, n := range x.has[i] {
			mask |= min(1, n) << b
		}
		s.had[i][mask]++
	}
	s.truths++
}

// widen widens a range so that a number is in it; the first number makes it.
func (s *said) widen(r *api.Range, n int) {
	if s.truths == 0 {
		*r = to(n, n)
	}
	*r = to(min(r.Min, n), max(r.Max, n))
}

// verdict returns the verdict on the sets of batches of an instrument.
func (s *said) verdict(instrument int, so func(batches int) bool) int {
	in := 0
	for mask, n := range s.had[instrument] {
		if so(mask) {
			in += n
		}
	}
	return verdictOf(in, s.truths)
}

// maskOf returns a set as a mask.
func maskOf(set []int) int {
	mask := 0
	for _, n := range set {
		mask |= 1 << n
	}
	return mask
}
