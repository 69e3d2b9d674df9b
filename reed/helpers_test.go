package reed_test

import (
	"iter"
	"slices"
	"strconv"
	"strings"

	"musette/api"
)

// to returns a range.
func to(least, most int) api.Range { return api.Range{Min: least, Max: most} }

// jobJ returns the job J of the chapter's examples.
func jobJ() api.Job {
	return api.Job{
		Tongue: api.Tongue{Pitch: to(-12, -8), Tip: to(30, 32), Root: to(40, 41)},
		File:   api.File{Up: to(3, 4), Down: to(2, 3), TipWear: to(1, 2), RootWear: to(1, 1), Least: 20},
		Shifts: []api.Range{to(-2, 1), to(0, 3)},
		Within: 5,
		Meter:  1,
	}
}

// jobK returns the job K of the chapter's examples.
func jobK() api.Job { return pitched(jobJ(), -9, -9) }

// pitched returns a job with another pitch.
func pitched(j api.Job, least, most int) api.Job {
	j.Pitch = to(least, most)
	return j
}

// but returns the job J after a change.
func but(change func(j *api.Job)) api.Job {
	j := jobJ()
	change(&j)
	return j
}

// plain returns a job without conditions, with thick steel and strokes that do just so much.
func plain(least, most, up, down, within, meter int) api.Job {
	return api.Job{
		Tongue: api.Tongue{Pitch: to(least, most), Tip: to(50, 50), Root: to(50, 50)},
		File:   api.File{Up: to(up, up), Down: to(down, down), TipWear: to(1, 1), RootWear: to(1, 1)},
		Within: within,
		Meter:  meter,
	}
}

// dice gives numbers that look random but are the same in each run.
type dice uint64

// roll returns a number from least to most.
func (d *dice) roll(least, most int) int {
	*d = *d*6364136223846793005 + 1442695040888963407
	return least + int(uint64(*d)>>33)%(most-least+1)
}

// span returns a range from a number on that is at most so wide.
func (d *dice) span(least, most, width int) api.Range {
	from := d.roll(least, most)
	return to(from, from+d.roll(0, width))
}

// job returns a small job: each range is at most as wide as said.
func (d *dice) job(width int) api.Job {
	j := api.Job{
		Tongue: api.Tongue{Pitch: d.span(-7, 7, 2*width), Tip: d.span(10, 16, width), Root: d.span(10, 16, width)},
		File:   api.File{Up: d.span(0, 4, width), Down: d.span(0, 4, width), TipWear: d.span(0, 2, width), RootWear: d.span(0, 2, width), Least: d.roll(4, 12)},
		Within: d.roll(0, 4),
		Meter:  d.roll(0, 2),
	}
	for range d.roll(0, 2) {
		j.Shifts = append(j.Shifts, d.span(-2, 2, width))
	}
	return j
}

// strokes returns a list of at most so many strokes.
func (d *dice) strokes(most int) []int {
	list := make([]int, d.roll(0, most))
	for i := range list {
		list[i] = d.roll(1, 2)
	}
	return list
}

// numbers yields all numbers of a range.
func numbers(r api.Range) iter.Seq[int] {
	return func(yield func(int) bool) {
		for n := r.Min; n <= r.Max; n++ {
			if !yield(n) {
				return
			}
		}
	}
}

// truth is what a tongue truly is, and by how much its pitch is shifted under each condition.
type truth struct {
	pitch, tip, root int
	shifts           []int
}

// passes tells whether the tongue passes in this truth.
func (t truth) passes(within int) bool { return t.deviation() <= within }

// deviation returns by how many cents the pitch is off at most.
func (t truth) deviation() int {
	if len(t.shifts) == 0 {
		return size(t.pitch)
	}
	most := 0
	for _, shift := range t.shifts {
		most = max(most, size(t.pitch+shift))
	}
	return most
}

// spoiled tells whether the tongue is spoiled in this truth.
func (t truth) spoiled(least int) bool { return t.tip < least || t.root < least }

func size(n int) int {
	if n < 0 {
		return -n
	}
	return n
}

// truths yields all truths of a job after some strokes; one that comes about in several ways is yielded several times.
func truths(j api.Job, strokes []int) iter.Seq[truth] {
	return func(yield func(truth) bool) {
		for pitch := range numbers(j.Pitch) {
			for tip := range numbers(j.Tip) {
				for root := range numbers(j.Root) {
					if !stroked(j, truth{pitch: pitch, tip: tip, root: root}, strokes, yield) {
						return
					}
				}
			}
		}
	}
}

// stroked yields all truths that a truth becomes by some strokes; it returns false as soon as nobody wants more.
func stroked(j api.Job, t truth, strokes []int, yield func(truth) bool) bool {
	if len(strokes) == 0 {
		return shifted(j.Shifts, t, yield)
	}
	for next := range after(j, t, strokes[0]) {
		if !stroked(j, next, strokes[1:], yield) {
			return false
		}
	}
	return true
}

// after yields all truths that a truth becomes by one stroke.
func after(j api.Job, t truth, stroke int) iter.Seq[truth] {
	return func(yield func(truth) bool) {
		effect, wear := j.Up, j.TipWear
		if stroke == api.StrokeRoot {
			effect, wear = j.Down, j.RootWear
		}
		for amount := range numbers(effect) {
			for taken := range numbers(wear) {
				next := t
				if stroke == api.StrokeTip {
					next.pitch, next.tip = t.pitch+amount, t.tip-taken
				} else {
					next.pitch, next.root = t.pitch-amount, t.root-taken
				}
				if !yield(next) {
					return
				}
			}
		}
	}
}

// shifted yields a truth with all shifts that it can have; it returns false as soon as nobody wants more.
func shifted(shifts []api.Range, t truth, yield func(truth) bool) bool {
	if len(t.shifts) == len(shifts) {
		return yield(t)
	}
	for shift := range numbers(shifts[len(t.shifts)]) {
		next := t
		next.shifts = append(slices.Clone(t.shifts), shift)
		if !shifted(shifts, next, yield) {
			return false
		}
	}
	return true
}

// tally counts in how many truths something is so, and in how many not.
type tally struct{ yes, no int }

func (c *tally) add(so bool) {
	if so {
		c.yes++
	} else {
		c.no++
	}
}

func (c tally) verdict() int {
	switch {
	case c.no == 0:
		return api.Always
	case c.yes == 0:
		return api.Never
	}
	return api.Either
}

// alwaysPasses tells whether a tongue of this pitch passes whatever the shifts are.
func alwaysPasses(j api.Job, pitch int) bool {
	return shifted(j.Shifts, truth{pitch: pitch}, func(t truth) bool { return t.passes(j.Within) })
}

// moved returns all numbers that some numbers become when an amount of a range is added to each, or taken from it if sign is -1.
func moved(from []int, by api.Range, sign int) []int {
	var all []int
	for _, n := range from {
		for amount := range numbers(by) {
			all = append(all, n+sign*amount)
		}
	}
	slices.Sort(all)
	return slices.Compact(all)
}

// belief is all that a tongue can be: each pitch, each thickness.
type belief struct{ pitches, tips, roots []int }

// beliefOf returns what a job says of its tongue.
func beliefOf(j api.Job) belief {
	return belief{slices.Collect(numbers(j.Pitch)), slices.Collect(numbers(j.Tip)), slices.Collect(numbers(j.Root))}
}

// stroke returns what is believed after a stroke.
func (b belief) stroke(j api.Job, stroke int) belief {
	if stroke == api.StrokeTip {
		return belief{moved(b.pitches, j.Up, 1), moved(b.tips, j.TipWear, -1), b.roots}
	}
	return belief{moved(b.pitches, j.Down, -1), b.tips, moved(b.roots, j.RootWear, -1)}
}

// passes tells whether the tongue passes whatever it is.
func (b belief) passes(j api.Job) bool {
	return !slices.ContainsFunc(b.pitches, func(p int) bool { return !alwaysPasses(j, p) })
}

// safe tells whether the tongue is not spoiled whatever it is.
func (b belief) safe(j api.Job) bool {
	thin := func(n int) bool { return n < j.Least }
	return !slices.ContainsFunc(b.tips, thin) && !slices.ContainsFunc(b.roots, thin)
}

// heard yields what is believed after each reading of a meter.
func (b belief) heard(meter int) iter.Seq[belief] {
	return func(yield func(belief) bool) {
		least, most := slices.Min(b.pitches), slices.Max(b.pitches)
		for reading := least - meter; reading <= most+meter; reading++ {
			next := b
			next.pitches = nil
			for _, p := range b.pitches {
				if size(p-reading) <= meter {
					next.pitches = append(next.pitches, p)
				}
			}
			if len(next.pitches) > 0 && !yield(next) {
				return
			}
		}
	}
}

// key returns a text that is another one for another belief.
func (b belief) key(left int) string {
	var s strings.Builder
	s.WriteString(strconv.Itoa(left))
	for _, list := range [][]int{b.pitches, b.tips, b.roots} {
		s.WriteString("/")
		for _, n := range list {
			s.WriteString(" " + strconv.Itoa(n))
		}
	}
	return s.String()
}

// game goes through all strokes, amounts and readings of a job.
type game struct {
	api.Job
	seen map[string]int
}

// none is the number of strokes if there is no way.
const none = 1000

// needs returns the fewest strokes of a tuner who believes this, and may make so many; none if there is no way.
func (g game) needs(b belief, left int) int {
	if b.passes(g.Job) {
		return 0
	}
	if left == 0 {
		return none
	}
	key := b.key(left)
	if n, ok := g.seen[key]; ok {
		return n
	}
	n := min(g.with(b, api.StrokeTip, left), g.with(b, api.StrokeRoot, left))
	g.seen[key] = n
	return n
}

// with returns the fewest strokes of a tuner who makes this stroke first.
func (g game) with(b belief, stroke, left int) int {
	next := b.stroke(g.Job, stroke)
	if !next.safe(g.Job) {
		return none
	}
	worst := 0
	for heard := range next.heard(g.Meter) {
		worst = max(worst, g.needs(heard, left-1))
	}
	return min(none, worst+1)
}

// play returns a game of this job.
func play(j api.Job) game { return game{j, map[string]int{}} }
