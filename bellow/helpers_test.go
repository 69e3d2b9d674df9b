package bellow_test

import (
	"cmp"
	"math/bits"
	"slices"
	"testing"

	"musette/api"
)

// to returns a range.
func to(least, most int) api.Range { return api.Range{Min: least, Max: most} }

// note returns a note without a rest ahead of it, rest one with a rest.
func note(seconds, least, most int) api.Note {
	return api.Note{Seconds: seconds, Air: to(least, most)}
}

func rest(seconds, least, most int) api.Note {
	return api.Note{Seconds: seconds, Air: to(least, most), Rest: true}
}

// lost returns a test of some corners.
func lost(seconds, least, most int, open ...int) api.Leakage {
	return api.Leakage{Open: open, Seconds: seconds, Lost: to(least, most)}
}

// bellowsB returns the bellows B of the chapter's examples.
func bellowsB() api.Bellow {
	return api.Bellow{Full: 100, Air: to(40, 40), Corners: []api.Range{to(0, 2), to(1, 3)}, Tests: []api.Leakage{lost(10, 25, 30, 0, 1)}}
}

// but returns the bellows B after a change.
func but(change func(b *api.Bellow)) api.Bellow {
	b := bellowsB()
	change(&b)
	return b
}

// tight returns a bellows that does not leak.
func tight(full, least, most int) api.Bellow { return api.Bellow{Full: full, Air: to(least, most)} }

// pieceP returns the piece P of the chapter's examples, pieceQ the same without its rest.
func pieceP() []api.Note { return []api.Note{note(4, 2, 3), rest(5, 3, 3), note(6, 1, 2)} }

func pieceQ() []api.Note { return []api.Note{note(4, 2, 3), note(5, 3, 3), note(6, 1, 2)} }

// largest returns a bellows and a piece in which there is as much as there can be of everything.
func largest() (api.Bellow, []api.Note) {
	return api.Bellow{
		Full: 200, Air: to(0, 200),
		Corners: slices.Repeat([]api.Range{to(0, 5)}, 4),
		Tests:   slices.Repeat([]api.Leakage{lost(20, 0, 400, 0, 1, 2, 3)}, 3),
	}, slices.Repeat([]api.Note{rest(20, 0, 9)}, 6)
}

// copyOf returns a bellows that shares no memory with the first one.
func copyOf(b api.Bellow) api.Bellow {
	b.Corners, b.Tests = slices.Clone(b.Corners), slices.Clone(b.Tests)
	for i, t := range b.Tests {
		b.Tests[i].Open = slices.Clone(t.Open)
	}
	return b
}

// sameTest tells whether two tests are the same.
func sameTest(a, b api.Leakage) bool {
	return slices.Equal(a.Open, b.Open) && a.Seconds == b.Seconds && a.Lost == b.Lost
}

// equal tells whether two bellows are the same.
func equal(a, b api.Bellow) bool {
	return a.Full == b.Full && a.Air == b.Air && slices.Equal(a.Corners, b.Corners) && slices.EqualFunc(a.Tests, b.Tests, sameTest)
}

// isZero tells whether a bellows is the zero value, but for empty slices.
func isZero(b api.Bellow) bool { return equal(b, api.Bellow{}) }

// must returns what takes a result without an error, and ends the test otherwise.
func must[T any](t *testing.T) func(result T, x api.Errno) T {
	return func(result T, x api.Errno) T {
		t.Helper()
		if x != api.OK {
			t.Fatal(result, x)
		}
		return result
	}
}

// dice gives numbers that look random but are the same in each run.
type dice uint64

// roll returns a number from least to most.
func (d *dice) roll(least, most int) int {
	*d = *d*6364136223846793005 + 1442695040888963407
	return least + int(uint64(*d)>>33)%(most-least+1)
}

// around returns a range within 0 and a greatest number, in which a number is.
func (d *dice) around(n, width, most int) api.Range {
	return to(max(0, n-d.roll(0, width)), min(most, n+d.roll(0, width)))
}

// within returns a range that is no wider than another one.
func (d *dice) within(r api.Range) api.Range {
	least := d.roll(r.Min, r.Max)
	return to(least, d.roll(least, r.Max))
}

// test returns a test of a bellows that has corners, as its corners truly leak.
func (d *dice) test(leaks []int) api.Leakage {
	open := d.set(len(leaks))
	if len(open) == 0 {
		open = []int{d.roll(0, len(leaks)-1)}
	}
	sum := 0
	for _, corner := range open {
		sum += leaks[corner]
	}
	seconds := d.roll(1, 4)
	return api.Leakage{Open: open, Seconds: seconds, Lost: d.around(seconds*sum, 3, api.MaxPiece)}
}

// bellows returns a valid bellows, and how much its corners truly leak.
func (d *dice) bellows() (api.Bellow, []int) {
	b := api.Bellow{Full: d.roll(1, d.roll(1, 60))}
	b.Air = d.around(d.roll(0, b.Full), 1, b.Full)
	var leaks []int
	for range d.roll(0, 4) {
		leak := d.roll(0, d.roll(0, 5))
		leaks = append(leaks, leak)
		b.Corners = append(b.Corners, d.around(leak, d.roll(0, 2), 5))
	}
	for range d.roll(0, 3) {
		if len(leaks) > 0 {
			b.Tests = append(b.Tests, d.test(leaks))
		}
	}
	return b, leaks
}

// against returns a bellows that may have no truth.
func (d *dice) against() api.Bellow {
	b, _ := d.bellows()
	if len(b.Tests) > 0 {
		b.Tests[0].Lost = d.around(d.roll(0, 30), 1, 400)
	}
	return b
}

// piece returns a valid piece of at most so many notes.
func (d *dice) piece(most int) []api.Note {
	var p []api.Note
	for range d.roll(0, most) {
		n := note(d.roll(1, d.roll(1, 5)), 0, 0)
		n.Air, n.Rest = d.around(d.roll(0, d.roll(0, 7)), 1, 9), d.roll(0, 2) > 0
		p = append(p, n)
	}
	return p
}

// ways returns valid ways of a piece.
func (d *dice) ways(p []api.Note) []int {
	var ways []int
	for i, n := range p {
		way := d.roll(1, 2)
		if i > 0 && !n.Rest {
			way = ways[i-1]
		}
		ways = append(ways, way)
	}
	return ways
}

// set returns a set of numbers below a limit, ascending.
func (d *dice) set(limit int) []int {
	var list []int
	for n := range limit {
		if d.roll(0, 1) == 0 {
			list = append(list, n)
		}
	}
	return list
}

// rangesOf returns all lists of numbers, each within its range.
func rangesOf(ranges []api.Range) [][]int {
	all := [][]int{nil}
	for _, r := range ranges {
		var longer [][]int
		for _, list := range all {
			for n := r.Min; n <= r.Max; n++ {
				longer = append(longer, append(slices.Clone(list), n))
			}
		}
		all = longer
	}
	return all
}

// truthsOf returns the leaks of all truths of a bellows, in the words of the chapter.
func truthsOf(b api.Bellow) [][]int {
	return slices.DeleteFunc(rangesOf(b.Corners), func(leaks []int) bool {
		return slices.ContainsFunc(b.Tests, func(t api.Leakage) bool {
			sum := 0
			for _, corner := range t.Open {
				sum += leaks[corner]
			}
			return t.Seconds*sum < t.Lost.Min || t.Seconds*sum > t.Lost.Max
		})
	})
}

// levelsOf returns the air after each note, if notes take as much as said.
func levelsOf(p []api.Note, ways, leaks []int, start int, airs []int) []int {
	var levels []int
	for i, n := range p {
		for range n.Seconds {
			change := airs[i]
			for _, leak := range leaks {
				change += leak
			}
			if ways[i] == api.WayPress {
				change = -change
			}
			start += change
		}
		levels = append(levels, start)
	}
	return levels
}

// fits tells whether all levels are from 0 to Full.
func fits(b api.Bellow, levels []int) bool {
	return !slices.ContainsFunc(levels, func(air int) bool { return air < 0 || air > b.Full })
}

// outcome is what the chapter says of a piece that is played by some ways: its levels, and in how many truths it can be played, and in how many it cannot.
type outcome struct {
	levels  []api.Range
	yes, no int
}

func (o outcome) verdict() int { return verdictOf(o.yes, o.no) }

// verdictOf returns the verdict on what is so in so many truths, and not in so many others.
func verdictOf(yes, no int) int {
	switch {
	case no == 0:
		return api.Always
	case yes == 0:
		return api.Never
	}
	return api.Either
}

// outcomeOf goes through all truths of a bellows, some corners of which are mended, and of a piece.
func outcomeOf(b api.Bellow, mended []int, p []api.Note, ways []int) outcome {
	ranges := []api.Range{b.Air}
	for _, n := range p {
		ranges = append(ranges, n.Air)
	}
	var sums []int
	for _, leaks := range truthsOf(b) {
		sum := 0
		for corner, leak := range leaks {
			if !slices.Contains(mended, corner) {
				sum += leak
			}
		}
		sums = append(sums, sum)
	}
	slices.Sort(sums)
	var o outcome
	for _, sum := range slices.Compact(sums) {
		for _, airs := range rangesOf(ranges) {
			levels := levelsOf(p, ways, []int{sum}, airs[0], airs[1:])
			if fits(b, levels) {
				o.yes++
			} else {
				o.no++
			}
			for i, air := range levels {
				if len(o.levels) == i {
					o.levels = append(o.levels, to(air, air))
				}
				o.levels[i] = to(min(o.levels[i].Min, air), max(o.levels[i].Max, air))
			}
		}
	}
	return o
}

// turnsOf returns how often ways turn.
func turnsOf(ways []int) int {
	turns := 0
	for i := 1; i < len(ways); i++ {
		if ways[i] != ways[i-1] {
			turns++
		}
	}
	return turns
}

// validWays returns all valid ways of a piece, those with fewer turns first, those with as many in lexicographic order.
func validWays(p []api.Note) [][]int {
	all := slices.DeleteFunc(rangesOf(slices.Repeat([]api.Range{to(1, 2)}, len(p))), func(ways []int) bool {
		for i := 1; i < len(p); i++ {
			if ways[i] != ways[i-1] && !p[i].Rest {
				return true
			}
		}
		return false
	})
	slices.SortFunc(all, func(a, b []int) int { return cmp.Or(cmp.Compare(turnsOf(a), turnsOf(b)), slices.Compare(a, b)) })
	return all
}

// firstWays returns the first of all valid ways with one of some verdicts.
func firstWays(b api.Bellow, mended []int, p []api.Note, verdicts ...int) ([]int, bool) {
	for _, ways := range validWays(p) {
		if slices.Contains(verdicts, outcomeOf(b, mended, p, ways).verdict()) {
			return ways, true
		}
	}
	return nil, false
}

// subsets returns all sets of numbers below a limit, smaller ones first, those that are as large in lexicographic order.
func subsets(limit int) [][]int {
	var all [][]int
	for set := range uint(1) << limit {
		var list []int
		for rest := set; rest != 0; rest &= rest - 1 {
			list = append(list, bits.TrailingZeros(rest))
		}
		all = append(all, list)
	}
	slices.SortFunc(all, func(a, b []int) int { return cmp.Or(cmp.Compare(len(a), len(b)), slices.Compare(a, b)) })
	return all
}

// rested returns a piece with rests ahead of some notes, too.
func rested(p []api.Note, notes []int) []api.Note {
	p = slices.Clone(p)
	for _, i := range notes {
		p[i].Rest = true
	}
	return p
}

// first returns the first set that will do, or ErrNone if the one with all numbers will not.
func first(limit int, will func(set []int) bool) ([]int, api.Errno) {
	all := subsets(limit)
	if !will(all[len(all)-1]) {
		return nil, api.ErrNone
	}
	return all[slices.IndexFunc(all, will)], api.OK
}
