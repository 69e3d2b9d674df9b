package wax

import (
	"iter"

	"musette/api"
)

// chances are the weeks in which each joint can fail; where there is no joint, nothing ever fails.
type chances [api.MaxJoints]weeks

// outcome is the week in which each joint fails.
type outcome [api.MaxJoints]int

// first returns the week in which the first joint fails.
func (o outcome) first() int { return least(o[0], o[1:]...) }

// sound returns how many of so many joints fail after a week, or stay.
func (o outcome) sound(number, week int) int {
	sound := 0
	for _, failure := range o[:number] {
		if failure > week {
			sound++
		}
	}
	return sound
}

// years are weathers, each with the chances of all joints as far as this weather tells.
type years map[weather]chances

// truths is what can be in a season: some years of each kind of joints. Heat and damp do not depend on each other, so that each year of the one can come with each of the other.
type truths struct {
	season api.Season
	years  map[int]years
}

// truthsOf returns what can be in a valid season.
func truthsOf(s api.Season) (truths, api.Errno) {
	t := untold(s).told(s.Reports)
	if !t.any() {
		return truths{}, api.ErrAgainst
	}
	return t, api.OK
}

// truthsWith returns what can be in a season that has a joint.
func truthsWith(s api.Season, joint int) (truths, api.Errno) {
	if e := first(Check(s), checkJoint(s, joint)); e != api.OK {
		return truths{}, e
	}
	return truthsOf(s)
}

// untold returns what could be in a valid season if there were no reports.
func untold(s api.Season) truths {
	t := truths{s, map[int]years{}}
	for _, kind := range kinds() {
		felt := materialOf(kind).felt(s)
		t.years[kind] = years{}
		for w := range weathers(felt) {
			t.years[kind][w] = chancesIn(s, kind, w[:len(felt)])
		}
	}
	return t
}

// chancesIn returns the chances of all joints in a weather that joints of a kind feel.
func chancesIn(s api.Season, kind int, felt []int) chances {
	c := anyChances(s)
	for i, j := range s.Joints {
		if j.Kind == kind {
			c[i] = failuresIn(j, felt)
		}
	}
	return c
}

// anyChances returns the chances of joints of which nothing is known.
func anyChances(s api.Season) chances {
	var c chances
	for i := range c {
		stays := len(s.Heats)
		c[i] = weeks(0).with(stays)
		if i < len(s.Joints) {
			c[i] = (^weeks(0)).until(stays)
		}
	}
	return c
}

// told returns what can be if reports are right.
func (t truths) told(reports []api.Seen) truths {
	right := anyChances(t.season)
	for _, r := range reports {
		cut := weeks.after
		if r.Failed {
			cut = weeks.until
		}
		right[r.Joint] = cut(right[r.Joint], r.Week)
	}
	kept := truths{t.season, map[int]years{}}
	for kind, all := range t.years {
		kept.years[kind] = all.with(right)
	}
	return kept
}

// with returns the years in which all joints keep some of their chances.
func (y years) with(right chances) years {
	kept := years{}
	for w, c := range y {
		if c = c.and(right); c.possible() {
			kept[w] = c
		}
	}
	return kept
}

// different returns the chances that there are in some year.
func (y years) different() map[chances]bool {
	met := map[chances]bool{}
	for _, c := range y {
		met[c] = true
	}
	return met
}

// and returns the chances that are also other ones.
func (c chances) and(other chances) chances {
	for i := range c {
		c[i] &= other[i]
	}
	return c
}

// possible tells whether each joint has a chance.
func (c chances) possible() bool { return least(c[0], c[1:]...) != 0 }

// outcomes hands out all outcomes of chances.
func (c chances) outcomes() iter.Seq[outcome] {
	return func(yield func(outcome) bool) {
		var o outcome
		var choose func(joint int) bool
		choose = func(joint int) bool {
			if joint == len(o) {
				return yield(o)
			}
			for week := range c[joint].each() {
				o[joint] = week
				if !choose(joint + 1) {
					return false
				}
			}
			return true
		}
		choose(0)
	}
}

// any tells whether there is a truth.
func (t truths) any() bool {
	for _, y := range t.years {
		if len(y) == 0 {
			return false
		}
	}
	return true
}

// outcomes hands out all outcomes that there can be, some of them more than once.
func (t truths) outcomes() iter.Seq[outcome] {
	return func(yield func(outcome) bool) {
		for hot := range t.years[api.JointWax].different() {
			for damp := range t.years[api.JointLeather].different() {
				for o := range hot.and(damp).outcomes() {
					if !yield(o) {
						return
					}
				}
			}
		}
	}
}

// felt returns for each week the least and the greatest weather that joints of a kind feel.
func (t truths) felt(kind int) []api.Range {
	list := make([]api.Range, len(t.season.Heats))
	for week := range list {
		list[week] = api.Range{Min: api.MaxWeather, Max: api.MinWeather}
		for w := range t.years[kind] {
			list[week] = api.Range{Min: min(list[week].Min, w[week]), Max: max(list[week].Max, w[week])}
		}
	}
	return list
}

// failures returns the weeks in which a joint can fail.
func (t truths) failures(joint int) weeks {
	var list weeks
	for _, c := range t.years[t.season.Joints[joint].Kind] {
		list |= c[joint]
	}
	return list
}

// anyFailures returns the weeks in which some joint can fail.
func (t truths) anyFailures() weeks {
	var list weeks
	for joint := range t.season.Joints {
		list |= t.failures(joint)
	}
	return list
}

// causes returns for each cause whether a joint fails of it.
func (t truths) causes(joint int) []int {
	j, number := t.season.Joints[joint], len(t.season.Heats)
	verdicts := make([]int, causes)
	for w, c := range t.years[j.Kind] {
		for f := range fatesOf(j, w[:number]) {
			if !c[joint].has(f.week()) {
				continue
			}
			for cause, week := range f {
				add(&verdicts[cause], week < number && week == f.week())
			}
		}
	}
	return verdicts
}

// add adds to a verdict what is so in a truth, or is not. What is so in some truths but not in others is Either, which is Always and Never together, as numbers in binary.
func add(verdict *int, so bool) {
	if so {
		*verdict |= api.Always
	} else {
		*verdict |= api.Never
	}
}
