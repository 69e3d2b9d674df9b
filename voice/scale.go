package voice

import (
	"iter"

	"musette/api"
)

// where is a note, and a row of a scale.
type where struct{ note, row int }

// Tremolo returns for each note whether it keeps the law with a register.
func Tremolo(s api.Scale, register []int) ([]int, api.Errno) {
	if e := first(CheckScale(s), checkRegister(s, register)); e != api.OK {
		return nil, e
	}
	var verdicts []int
	for note := range notes(s) {
		var open []api.Sound
		for _, row := range register {
			open = append(open, s.Rows[row][note])
		}
		verdicts = append(verdicts, at(s.Law, note).verdict(open...))
	}
	return verdicts, api.OK
}

// Span returns the least Span with which each note would always keep the law.
func Span(s api.Scale, register []int) (int, api.Errno) {
	if e := first(CheckScale(s), checkRegister(s, register)); e != api.OK {
		return 0, e
	}
	span := 0
	for _, d := range neighbours(s, register) {
		span = max(span, d.off())
	}
	return span, api.OK
}

// Bad returns the first note that does not always keep the law, and the lower row of its first two tongues that do not.
func Bad(s api.Scale, register []int) (note, row int, e api.Errno) {
	if e := first(CheckScale(s), checkRegister(s, register)); e != api.OK {
		return 0, 0, e
	}
	for lower, d := range neighbours(s, register) {
		if !d.always() {
			return lower.note, lower.row, api.OK
		}
	}
	return 0, 0, api.ErrNone
}

// notes returns how many notes a scale has.
func notes(s api.Scale) int {
	if len(s.Rows) == 0 {
		return 0
	}
	return len(s.Rows[0])
}

// neighbours yields, note by note, each two tongues that have to keep the law with a register, and where the lower one is.
func neighbours(s api.Scale, register []int) iter.Seq2[where, duo] {
	return func(yield func(where, duo) bool) {
		for note := range notes(s) {
			for i := 1; i < len(register); i++ {
				low, high := register[i-1], register[i]
				if !yield(where{note, low}, duo{at(s.Law, note), s.Rows[low][note], s.Rows[high][note]}) {
					return
				}
			}
		}
	}
}
