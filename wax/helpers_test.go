package wax_test

import (
	"cmp"
	"iter"
	"math/bits"
	"slices"
	"testing"

	"musette/api"
	"musette/wax"
)

// to returns a range.
func to(least, most int) api.Range { return api.Range{Min: least, Max: most} }

// seasonS is the season S of the chapter's examples, seasonT the season T.
func seasonS() api.Season {
	return api.Season{
		Heats: []api.Range{to(20, 21), to(28, 30), to(10, 10)},
		Damps: []api.Range{to(50, 50), to(50, 50), to(50, 50)},
		Joints: []api.Joint{
			{Kind: api.JointWax, High: to(30, 31), Low: to(10, 10), Weeks: to(1, 2), Life: to(9, 9)},
			{Kind: api.JointLeather, High: to(60, 60), Low: to(40, 40), Weeks: to(1, 1), Life: to(1, 2)},
		},
	}
}

func seasonT() api.Season { return told(seen(0, 1, true)) }

// but returns the season S after a change, told returns it with reports.
func but(change func(s *api.Season)) api.Season {
	s := seasonS()
	change(&s)
	return s
}

func told(reports ...api.Seen) api.Season {
	return but(func(s *api.Season) { s.Reports = reports })
}

// seen returns a report.
func seen(joint, week int, failed bool) api.Seen {
	return api.Seen{Joint: joint, Week: week, Failed: failed}
}

// waxen returns a joint of wax of which all numbers are known, leathern one of leather.
func waxen(high, low, weeks, life int) api.Joint {
	return api.Joint{Kind: api.JointWax, High: to(high, high), Low: to(low, low), Weeks: to(weeks, weeks), Life: to(life, life)}
}

func leathern(high, low, weeks, life int) api.Joint {
	j := waxen(high, low, weeks, life)
	j.Kind = api.JointLeather
	return j
}

// known returns a season with known heats and joints; its damps are 0.
func known(joints []api.Joint, heats ...int) api.Season {
	s := api.Season{Damps: make([]api.Range, len(heats)), Joints: joints}
	for _, heat := range heats {
		s.Heats = append(s.Heats, to(heat, heat))
	}
	return s
}

// copyOf returns a season that shares no memory with the first one.
func copyOf(s api.Season) api.Season {
	return api.Season{Heats: slices.Clone(s.Heats), Damps: slices.Clone(s.Damps), Joints: slices.Clone(s.Joints), Reports: slices.Clone(s.Reports)}
}

// equal tells whether two seasons are the same.
func equal(a, b api.Season) bool {
	return slices.Equal(a.Heats, b.Heats) && slices.Equal(a.Damps, b.Damps) && slices.Equal(a.Joints, b.Joints) && slices.Equal(a.Reports, b.Reports)
}

// isZero tells whether a season is the zero value, but for empty slices.
func isZero(s api.Season) bool { return equal(s, api.Season{}) }

// must returns what takes a result without an error, and ends the test otherwise.
func must[T any](t *testing.T) func(result T, e api.Errno) T {
	return func(result T, e api.Errno) T {
		t.Helper()
		if e != api.OK {
			t.Fatal(result, e)
		}
		return result
	}
}

// dice gives numbers that look random but are the same in each run.
type dice uint64

// roll returns a number from least to most.
func (d *dice) roll(least, most int) int {
	*d = *d*6364136223846793005 + 1442695040888963407
	return least + int(uint64(*d)>>33)%(most-least+1)
}

// span returns a range from a number on.
func (d *dice) span(least, width int) api.Range { return to(least, least+d.roll(0, width)) }

// within returns a range that is no wider than another one.
func (d *dice) within(r api.Range) api.Range {
	least := d.roll(r.Min, r.Max)
	return to(least, d.roll(least, r.Max))
}

// joint returns a joint that fails now and then in a season of so many weeks.
func (d *dice) joint(weeks int) api.Joint {
	j := api.Joint{Kind: d.roll(api.JointWax, api.JointLeather), High: d.span(d.roll(4, 12), d.roll(0, 2)), Low: d.span(d.roll(-6, 2), d.roll(0, 2))}
	j.Weeks.Min = d.roll(1, min(weeks, 3))
	j.Weeks.Max = d.roll(j.Weeks.Min, min(weeks, j.Weeks.Min+1))
	j.Life = to(9, 9)
	if d.roll(0, 2) == 0 {
		j.Life = d.span(d.roll(0, weeks), d.roll(0, 2))
	}
	return j
}

// report returns a report about some joint.
func (d *dice) report(s api.Season) api.Seen {
	return seen(d.roll(0, len(s.Joints)-1), d.roll(0, len(s.Heats)-1), d.roll(0, 2) == 0)
}

// open returns a season without reports that has at most so many truths.
func (d *dice) open(most int) api.Season {
	for {
		var s api.Season
		weeks := d.roll(1, d.roll(2, 6))
		for range weeks {
			s.Heats = append(s.Heats, d.span(d.roll(-3, 7), d.roll(0, 2)))
			s.Damps = append(s.Damps, d.span(d.roll(-3, 7), d.roll(0, 2)))
		}
		for range d.roll(d.roll(0, 3), 3) {
			s.Joints = append(s.Joints, d.joint(weeks))
		}
		number := 1
		for _, r := range rangesOf(s) {
			number *= r.Max - r.Min + 1
		}
		if number <= most {
			return s
		}
	}
}

// season returns a season with at most so many truths, and with reports, which may be against each other.
func (d *dice) season(most int) api.Season {
	s := d.open(most)
	if len(s.Joints) > 0 {
		for range d.roll(0, 3) {
			s.Reports = append(s.Reports, d.report(s))
		}
	}
	return s
}

// rangesOf returns all that is not known of a season: the heats, the damps, and four numbers of each joint.
func rangesOf(s api.Season) []api.Range {
	all := slices.Concat(s.Heats, s.Damps)
	for _, j := range s.Joints {
		all = append(all, j.High, j.Low, j.Weeks, j.Life)
	}
	return all
}

// truth is the heat and the damp of each week, the week in which each joint fails with numbers of its own, and the causes in this week.
type truth struct {
	heats, damps []int
	weeks        []int
	causes       [][3]bool
}

// truthWith returns the truth of a season with some numbers for all that is not known.
func truthWith(s api.Season, numbers []int) truth {
	weeks := len(s.Heats)
	x := truth{heats: numbers[:weeks], damps: numbers[weeks : 2*weeks]}
	for i, j := range s.Joints {
		felt := x.heats
		if j.Kind == api.JointLeather {
			felt = x.damps
		}
		own := numbers[2*weeks+4*i:]
		week, causes := fail(felt, own[0], own[1], own[2], own[3])
		x.weeks, x.causes = append(x.weeks, week), append(x.causes, causes)
	}
	return x
}

// fail returns the week in which a joint fails, and the causes, in the words of the chapter.
func fail(felt []int, high, low, weeks, life int) (week int, causes [3]bool) {
	for week := range felt {
		cold := 0
		for _, n := range felt[:week+1] {
			if n <= low {
				cold++
			}
		}
		causes := [3]bool{felt[week] >= high, cold == weeks && felt[week] <= low, week == life}
		if slices.Contains(causes[:], true) {
			return week, causes
		}
	}
	return len(felt), causes
}

// right tells whether reports are right in a truth.
func (x truth) right(reports []api.Seen) bool {
	return !slices.ContainsFunc(reports, func(r api.Seen) bool { return (x.weeks[r.Joint] <= r.Week) != r.Failed })
}

// allOf hands out all numbers that are within ranges.
func allOf(ranges []api.Range) iter.Seq[[]int] {
	return func(yield func([]int) bool) {
		var choose func(numbers []int) bool
		choose = func(numbers []int) bool {
			if len(numbers) == len(ranges) {
				return yield(slices.Clone(numbers))
			}
			r := ranges[len(numbers)]
			for n := r.Min; n <= r.Max; n++ {
				if !choose(append(numbers, n)) {
					return false
				}
			}
			return true
		}
		choose(nil)
	}
}

// truthsOf returns all truths of a season.
func truthsOf(s api.Season) []truth {
	var all []truth
	for numbers := range allOf(rangesOf(s)) {
		if x := truthWith(s, numbers); x.right(s.Reports) {
			all = append(all, x)
		}
	}
	return all
}

// truthOf returns a truth of a season without reports.
func (d *dice) truthOf(s api.Season) truth {
	var numbers []int
	for _, r := range rangesOf(s) {
		numbers = append(numbers, d.roll(r.Min, r.Max))
	}
	return truthWith(s, numbers)
}

// rightReport returns a report that is right in a truth.
func (d *dice) rightReport(s api.Season, x truth) api.Seen {
	r := d.report(s)
	r.Failed = x.weeks[r.Joint] <= r.Week
	return r
}

// verdictOf returns the verdict on what is so in some truths.
func verdictOf(truths []truth, so func(x truth) bool) int {
	number := 0
	for _, x := range truths {
		if so(x) {
			number++
		}
	}
	switch number {
	case len(truths):
		return api.Always
	case 0:
		return api.Never
	}
	return api.Either
}

// spanOf returns the least and the greatest number that truths have.
func spanOf(truths []truth, number func(x truth) int) api.Range {
	var all []int
	for _, x := range truths {
		all = append(all, number(x))
	}
	return to(slices.Min(all), slices.Max(all))
}

// unseenIn returns for how many weeks failures are unseen in a truth, in the words of the chapter.
func unseenIn(x truth, looks []int) int {
	last := len(x.heats) - 1
	longest := 0
	for _, failure := range x.weeks {
		if failure > last {
			continue
		}
		until := last + 1
		for week := last; week >= failure; week-- {
			if slices.Contains(looks, week) {
				until = week
			}
		}
		longest = max(longest, until-failure)
	}
	return longest
}

// subsets returns all sets of numbers below a limit, smaller ones first, those that are as large in lexicographic order.
func subsets(limit int) [][]int {
	var all [][]int
	for set := range uint(1) << limit {
		var list []int
		for rest := set; rest != 0; rest &= rest - 1 {
			list = append(list, bits.TrailingZeros(rest))
		}
		all = append(all, list)
	}
	slices.SortFunc(all, func(a, b []int) int { return cmp.Or(cmp.Compare(len(a), len(b)), slices.Compare(a, b)) })
	return all
}

// without returns a season without some reports.
func without(s api.Season, reports []int) api.Season {
	var kept []api.Seen
	for i, r := range s.Reports {
		if !slices.Contains(reports, i) {
			kept = append(kept, r)
		}
	}
	s.Reports = kept
	return s
}

// feltBy returns the weather ranges that joints of a kind feel.
func feltBy(s api.Season, kind int) []api.Range {
	if kind == api.JointWax {
		return s.Heats
	}
	return s.Damps
}

// against tells whether there is no truth of a season.
func against(s api.Season) bool {
	_, e := wax.First(s)
	return e == api.ErrAgainst
}
