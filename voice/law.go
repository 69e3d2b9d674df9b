package voice

import (
	"iter"

	"musette/api"
)

// rule is a law at one note.
type rule struct {
	api.Law
	due int
}

// at returns a law at a note.
func at(l api.Law, note int) rule { return rule{l, l.First + l.Step*note} }

// duo is two tongues, and the law that they have to keep.
type duo struct {
	rule
	low, high api.Sound
}

// beats returns the least and the greatest beat at each pressure.
func (d duo) beats() []api.Range {
	var list []api.Range
	for pressure := range d.Press + 1 {
		list = append(list, less(pressed(d.high, pressure), pressed(d.low, pressure)))
	}
	return list
}

// off returns by how much the beat can be away from what is due at some pressure.
func (d duo) off() int {
	most := 0
	for _, beat := range d.beats() {
		most = max(most, d.due-beat.Min, beat.Max-d.due)
	}
	return most
}

// always tells whether the tongues keep the law in every truth: tones and slopes do not depend on each other, so both ends of each beat can be.
func (d duo) always() bool { return d.off() <= d.Span }

// verdict returns whether tongues keep the law, each with the next one.
func (r rule) verdict(tongues ...api.Sound) int {
	always := true
	for i := 1; i < len(tongues); i++ {
		always = always && duo{r, tongues[i-1], tongues[i]}.always()
	}
	switch {
	case always:
		return api.Always
	case !r.sometimes(tongues):
		return api.Never
	}
	return api.Either
}

// sometimes tells whether tongues keep the law, each with the next one, in some truth. Both neighbours of a tongue hear the same sound of it, so it does not suffice that each two of them can keep it.
func (r rule) sometimes(tongues []api.Sound) bool {
	possible := map[tones]bool{}
	for i, tongue := range tongues {
		next := map[tones]bool{}
		for high := range r.sounds(tongue) {
			if i == 0 || r.follows(high, possible) {
				next[high] = true
			}
		}
		possible = next
	}
	return len(possible) > 0
}

// follows tells whether an upper tongue keeps the law with one of the sounds that the lower one can have.
func (r rule) follows(high tones, lows map[tones]bool) bool {
	for low := range lows {
		if r.keeps(low, high) {
			return true
		}
	}
	return false
}

// tones is which tone a tongue has at each pressure, in a truth; it is 0 at pressures that a law does not speak of.
type tones [api.MaxPress + 1]int

// sounds yields the tones of a tongue in all truths.
func (r rule) sounds(s api.Sound) iter.Seq[tones] {
	return func(yield func(tones) bool) {
		for tone := s.Tone.Min; tone <= s.Tone.Max; tone++ {
			for slope := s.Slope.Min; slope <= s.Slope.Max; slope++ {
				var sound tones
				for pressure := range r.Press + 1 {
					sound[pressure] = tone + slope*pressure
				}
				if !yield(sound) {
					return
				}
			}
		}
	}
}

// keeps tells whether two tongues with these tones keep the law.
func (r rule) keeps(low, high tones) bool {
	for pressure := range r.Press + 1 {
		beat := high[pressure] - low[pressure]
		if beat < r.due-r.Span || beat > r.due+r.Span {
			return false
		}
	}
	return true
}

// pressed returns the tones that a tongue can have at a pressure.
func pressed(s api.Sound, pressure int) api.Range {
	return api.Range{Min: s.Tone.Min + s.Slope.Min*pressure, Max: s.Tone.Max + s.Slope.Max*pressure}
}

// less returns all differences of a number of one range and a number of another one.
func less(a, b api.Range) api.Range {
	return api.Range{Min: a.Min - b.Max, Max: a.Max - b.Min}
}
