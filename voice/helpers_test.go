package voice_test

import (
	"cmp"
	"math/bits"
	"slices"
	"testing"

	"musette/api"
)

// to returns a range.
func to(least, most int) api.Range { return api.Range{Min: least, Max: most} }

// sound returns a tongue, flat one whose slope is 0.
func sound(tone, slope api.Range) api.Sound { return api.Sound{Tone: tone, Slope: slope} }

func flat(least, most int) api.Sound { return sound(to(least, most), to(0, 0)) }

// lawB is the law of the box B of the chapter's examples, boxB this box, boxC the box C, and scaleS the scale S.
func lawB() api.Law { return api.Law{First: 20, Step: -2, Span: 4, Press: 2} }

func boxB() api.Box {
	return api.Box{
		Law: lawB(), Note: 3,
		Lows:  []api.Sound{flat(-1, 1), sound(to(5, 5), to(1, 1))},
		Highs: []api.Sound{sound(to(14, 15), to(0, 1)), flat(20, 20), flat(30, 30)},
		Tip:   to(30, 32), Root: to(40, 41),
		File:  api.File{Up: to(3, 4), Down: to(2, 3), TipWear: to(1, 2), RootWear: to(1, 1), Least: 20},
		Meter: 1,
	}
}

func boxC() api.Box {
	return but(func(b *api.Box) { b.Highs = slices.Delete(b.Highs, 1, 2) })
}

func scaleS() api.Scale {
	return api.Scale{Law: lawB(), Rows: [][]api.Sound{{flat(-1, 1), flat(0, 0)}, {flat(20, 20), flat(13, 15)}, {flat(30, 30), flat(30, 30)}}}
}

// but returns the box B after a change, butScale the scale S.
func but(change func(b *api.Box)) api.Box {
	b := boxB()
	change(&b)
	return b
}

func butScale(change func(s *api.Scale)) api.Scale {
	s := scaleS()
	change(&s)
	return s
}

// with returns the box B with other tongues.
func with(lows, highs []api.Sound) api.Box {
	return but(func(b *api.Box) { b.Lows, b.Highs = lows, highs })
}

// copyOf returns a box that shares no memory with the first one, copyOfScale a scale.
func copyOf(b api.Box) api.Box {
	b.Lows, b.Highs = slices.Clone(b.Lows), slices.Clone(b.Highs)
	return b
}

func copyOfScale(s api.Scale) api.Scale {
	s.Rows = slices.Clone(s.Rows)
	for i, row := range s.Rows {
		s.Rows[i] = slices.Clone(row)
	}
	return s
}

// equal tells whether two boxes are the same.
func equal(a, b api.Box) bool {
	return a.Law == b.Law && a.Note == b.Note && slices.Equal(a.Lows, b.Lows) && slices.Equal(a.Highs, b.Highs) && a.Tip == b.Tip && a.Root == b.Root && a.File == b.File && a.Meter == b.Meter
}

// isZero tells whether a box is the zero value, but for empty slices.
func isZero(b api.Box) bool { return equal(b, api.Box{}) }

// sameJob tells whether two jobs are the same.
func sameJob(a, b api.Job) bool {
	return a.Tongue == b.Tongue && a.File == b.File && slices.Equal(a.Shifts, b.Shifts) && a.Within == b.Within && a.Meter == b.Meter
}

// must returns what takes a result without an error, and ends the test otherwise.
func must[T any](t *testing.T) func(result T, x api.Errno) T {
	return func(result T, x api.Errno) T {
		t.Helper()
		if x != api.OK {
			t.Fatal(result, x)
		}
		return result
	}
}

// dice gives numbers that look random but are the same in each run.
type dice uint64

// roll returns a number from least to most.
func (d *dice) roll(least, most int) int {
	*d = *d*6364136223846793005 + 1442695040888963407
	return least + int(uint64(*d)>>33)%(most-least+1)
}

// span returns a range near a number, with numbers at most so far from 0.
func (d *dice) span(near, far, width, most int) api.Range {
	least := min(max(-most, d.roll(near-far, near+far)), most)
	return to(least, min(most, least+d.roll(0, width)))
}

// within returns a range that is no wider than another one.
func (d *dice) within(r api.Range) api.Range {
	least := d.roll(r.Min, r.Max)
	return to(least, d.roll(least, r.Max))
}

// tongue returns a tongue near a tone, of which more or less is known.
func (d *dice) tongue(near, width int) api.Sound {
	return sound(d.span(near, 4, d.roll(0, width), api.MaxHigh), d.span(0, 1, d.roll(0, 1), api.MaxSlope))
}

// law returns a law, and a note at which there can be what is due.
func (d *dice) law() (api.Law, int) {
	for {
		l := api.Law{First: d.roll(0, 30), Step: d.roll(-5, 5), Span: d.roll(0, d.roll(1, 9)), Press: d.roll(0, 3)}
		if note := d.roll(0, 11); 0 <= dueAt(l, note) && dueAt(l, note) <= 30 {
			return l, note
		}
	}
}

// box returns a valid box in which some pairs keep the law.
func (d *dice) box() api.Box {
	var b api.Box
	b.Law, b.Note = d.law()
	near := d.roll(-30, 20)
	for range d.roll(0, 4) {
		b.Lows = append(b.Lows, d.tongue(near, 4))
	}
	for range d.roll(d.roll(0, 5), 5) {
		b.Highs = append(b.Highs, d.tongue(near+dueAt(b.Law, b.Note), 4))
	}
	effect := func(least, width int) api.Range {
		n := d.roll(least, least+2)
		return to(n, n+d.roll(0, width))
	}
	b.Tip, b.Root = effect(28, 2), effect(28, 2)
	b.File = api.File{Up: effect(1, 2), Down: effect(1, 2), TipWear: effect(0, 1), RootWear: effect(0, 1), Least: d.roll(14, 30)}
	b.Meter = d.roll(0, 2)
	return b
}

// scale returns a valid scale with at most so many notes, of whose tongues more or less is known, most of whose rows are near what is due above the row before.
func (d *dice) scale(most, width int) api.Scale {
	number := d.roll(0, most)
	for {
		l, _ := d.law()
		l.First = d.roll(0, 12)
		if due := dueAt(l, max(0, number-1)); due < 0 || due > 30 {
			continue
		}
		s := api.Scale{Law: l}
		for i := range d.roll(d.roll(0, 4), 4) {
			var row []api.Sound
			for note := range number {
				row = append(row, d.tongue(i*dueAt(l, note)-20, width))
			}
			s.Rows = append(s.Rows, row)
		}
		return s
	}
}

// set returns a set of numbers below a limit, ascending.
func (d *dice) set(limit int) []int {
	var list []int
	for n := range limit {
		if d.roll(0, 2) > 0 {
			list = append(list, n)
		}
	}
	return list
}

// dueAt returns what is due at a note.
func dueAt(l api.Law, note int) int { return l.First + l.Step*note }

// truth is the tone of a tongue without pressure, and its slope.
type truth struct{ tone, slope int }

// at returns the tone at a pressure.
func (t truth) at(pressure int) int { return t.tone + t.slope*pressure }

// truthsOf returns all that a tongue can be.
func truthsOf(s api.Sound) []truth {
	var all []truth
	for tone := s.Tone.Min; tone <= s.Tone.Max; tone++ {
		for slope := s.Slope.Min; slope <= s.Slope.Max; slope++ {
			all = append(all, truth{tone, slope})
		}
	}
	return all
}

// truthOf returns something that a tongue can be.
func (d *dice) truthOf(s api.Sound) truth {
	return truth{d.roll(s.Tone.Min, s.Tone.Max), d.roll(s.Slope.Min, s.Slope.Max)}
}

// keep tells whether two tongues keep a law at a note, in the words of the chapter.
func keep(l api.Law, note int, low, high truth) bool {
	for pressure := 0; pressure <= l.Press; pressure++ {
		beat := high.at(pressure) - low.at(pressure)
		if max(beat, dueAt(l, note))-min(beat, dueAt(l, note)) > l.Span {
			return false
		}
	}
	return true
}

// countTruths goes through all truths of tongues, and returns in how many each keeps the law with the next one, and in how many not.
func countTruths(l api.Law, note int, tongues []api.Sound, before ...truth) (yes, no int) {
	if len(before) == len(tongues) {
		for i := 1; i < len(before); i++ {
			if !keep(l, note, before[i-1], before[i]) {
				return 0, 1
			}
		}
		return 1, 0
	}
	for _, t := range truthsOf(tongues[len(before)]) {
		more, less := countTruths(l, note, tongues, append(slices.Clone(before), t)...)
		yes, no = yes+more, no+less
	}
	return yes, no
}

// verdictOf returns the verdict on what is so in so many truths, and not in so many others.
func verdictOf(yes, no int) int {
	switch {
	case no == 0:
		return api.Always
	case yes == 0:
		return api.Never
	}
	return api.Either
}

// tableOf returns the verdicts on all pairs of a box.
func tableOf(b api.Box) [][]int {
	table := make([][]int, len(b.Lows))
	for i, low := range b.Lows {
		for _, high := range b.Highs {
			table[i] = append(table[i], verdictOf(countTruths(b.Law, b.Note, []api.Sound{low, high})))
		}
	}
	return table
}

// none is what a pairing has for a lower tongue without an upper one.
const none = -1

// pairingsOf returns all pairings of so many tongues, in the order of the chapter.
func pairingsOf(lows, highs int) [][]int {
	all := [][]int{nil}
	for range lows {
		var longer [][]int
		for _, pairing := range all {
			for high := none; high < highs; high++ {
				if high == none || !slices.Contains(pairing, high) {
					longer = append(longer, append(slices.Clone(pairing), high))
				}
			}
		}
		all = longer
	}
	slices.SortFunc(all, comparePairings)
	return all
}

// comparePairings tells which of two pairings is the first one.
func comparePairings(a, b []int) int {
	for low := range a {
		switch {
		case a[low] == b[low]:
		case a[low] == none:
			return 1
		case b[low] == none:
			return -1
		default:
			return cmp.Compare(a[low], b[low])
		}
	}
	return 0
}

// bestPairing returns the first of all pairings with the most pairs that have one of some verdicts, and how many these are.
func bestPairing(table [][]int, highs int, verdicts ...int) (best []int, most int) {
	most = -1
	for _, pairing := range pairingsOf(len(table), highs) {
		pairs, ok := 0, true
		for low, high := range pairing {
			if high != none {
				pairs++
				ok = ok && slices.Contains(verdicts, table[low][high])
			}
		}
		if ok && pairs > most {
			best, most = pairing, pairs
		}
	}
	return best, most
}

// subsets returns all sets of numbers below a limit, smaller ones first, those that are as large in lexicographic order.
func subsets(limit int) [][]int {
	var all [][]int
	for set := range uint(1) << limit {
		var list []int
		for rest := set; rest != 0; rest &= rest - 1 {
			list = append(list, bits.TrailingZeros(rest))
		}
		all = append(all, list)
	}
	slices.SortFunc(all, func(a, b []int) int { return cmp.Or(cmp.Compare(len(a), len(b)), slices.Compare(a, b)) })
	return all
}

// column returns the tongues of a note that a register opens.
func column(s api.Scale, register []int, note int) []api.Sound {
	var open []api.Sound
	for _, row := range register {
		open = append(open, s.Rows[row][note])
	}
	return open
}

// notesOf returns how many notes a scale has.
func notesOf(s api.Scale) int {
	if len(s.Rows) == 0 {
		return 0
	}
	return len(s.Rows[0])
}
