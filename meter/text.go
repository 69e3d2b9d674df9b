package meter

import (
	"errors"
	"strconv"
	"strings"

	"musette/api"
)

// maxNumber is the greatest number that has at most as many digits as a text may have.
const maxNumber = 999999

// The parts of a text, in their order.
const (
	partSlack = iota
	partTones
	partReadings
	partEnd
)

// wrongLine is the error of a text: the number of the first line that is not as it has to be.
type wrongLine struct{ number int }

// Error says in words which line is wrong.
func (w wrongLine) Error() string {
	return "line " + strconv.Itoa(w.number) + ": " + api.ErrText.Error()
}

// form is how a line of a text is written: its word, as many numbers, and then a range if there is one; to which part it belongs; and what takes it into an ear.
type form struct {
	word    string
	part    int
	numbers int
	ranged  bool
	take    func(e *api.Ear, numbers []int, r api.Range)
}

// Write returns an ear as a text.
func Write(e api.Ear) (string, api.Errno) {
	if x := Check(e); x != api.OK {
		return "", x
	}
	text := lineOf("slack", strconv.Itoa(e.Slack))
	for _, r := range e.Tones {
		text += lineOf("tone", span(r))
	}
	for _, r := range e.Readings {
		text += written(senseOf(r, e.Slack))
	}
	return text + lineOf("heard"), api.OK
}

// Read returns the ear of a text, or the error of the text and the number of the line in which it is.
func Read(text string) (e api.Ear, line int, x api.Errno) {
	if len(text) > api.MaxEar {
		return api.Ear{}, 0, api.ErrLong
	}
	e, err := parse(text)
	var wrong wrongLine
	if errors.As(err, &wrong) {
		return api.Ear{}, wrong.number, api.ErrText
	}
	if x := Check(e); x != api.OK {
		return api.Ear{}, 0, x
	}
	return e, 0, api.OK
}

// written returns the line of a reading.
func written(s sense) string {
	switch r := s.(type) {
	case count:
		return lineOf("count", strconv.Itoa(r.A), strconv.Itoa(r.Seconds), span(r.Shown))
	case beat:
		return lineOf("beat", strconv.Itoa(r.A), strconv.Itoa(r.B), strconv.Itoa(r.Seconds), span(r.Shown))
	case higher:
		return lineOf("higher", strconv.Itoa(r.A), strconv.Itoa(r.B))
	}
	return ""
}

// lineOf returns a line of a text with these words.
func lineOf(words ...string) string { return strings.Join(words, " ") + "\n" }

// span returns a range as it is written.
func span(r api.Range) string { return "[" + strconv.Itoa(r.Min) + "," + strconv.Itoa(r.Max) + "]" }

// forms returns how the lines of a text are written.
func forms() []form {
	return []form{
		{"slack", partSlack, 1, false, func(e *api.Ear, numbers []int, _ api.Range) {
			e.Slack = numbers[0]
		}},
		{"tone", partTones, 0, true, func(e *api.Ear, _ []int, r api.Range) {
			e.Tones = append(e.Tones, r)
		}},
		{"count", partReadings, 2, true, func(e *api.Ear, numbers []int, r api.Range) {
			e.Readings = append(e.Readings, api.Reading{Kind: api.ReadCount, A: numbers[0], Seconds: numbers[1], Shown: r})
		}},
		{"beat", partReadings, 3, true, func(e *api.Ear, numbers []int, r api.Range) {
			e.Readings = append(e.Readings, api.Reading{Kind: api.ReadBeat, A: numbers[0], B: numbers[1], Seconds: numbers[2], Shown: r})
		}},
		{"higher", partReadings, 2, false, func(e *api.Ear, numbers []int, _ api.Range) {
			e.Readings = append(e.Readings, api.Reading{Kind: api.ReadHigher, A: numbers[0], B: numbers[1]})
		}},
		{"heard", partEnd, 0, false, func(*api.Ear, []int, api.Range) {}},
	}
}

// parse returns the ear that a text says; its error is a wrongLine.
func parse(text string) (api.Ear, error) {
	var e api.Ear
	number, part := 1, partSlack
	for ; part != partEnd; number++ {
		line, rest, ended := strings.Cut(text, "\n")
		next, ok := takeLine(&e, line)
		// The slack is said by the first line, and by that alone.
		if !ended || !ok || next < part || (next == partSlack) != (number == 1) {
			return api.Ear{}, wrongLine{number}
		}
		part, text = next, rest
	}
	if text != "" {
		return api.Ear{}, wrongLine{number}
	}
	return e, nil
}

// takeLine takes a line into an ear, and tells to which part of the text it belongs, and whether it is as it has to be.
func takeLine(e *api.Ear, line string) (part int, ok bool) {
	words := strings.Split(line, " ")
	for _, f := range forms() {
		if f.word == words[0] {
			return f.part, f.apply(e, words[1:])
		}
	}
	return 0, false
}

// apply takes the words that follow the first one of a line into an ear, and tells whether they are as they have to be.
func (f form) apply(e *api.Ear, words []string) bool {
	var r api.Range
	if f.ranged {
		last := len(words) - 1
		if last < 0 {
			return false
		}
		shown, ok := readSpan(words[last])
		if !ok {
			return false
		}
		r, words = shown, words[:last]
	}
	numbers, ok := readNumbers(words)
	if !ok || len(numbers) != f.numbers {
		return false
	}
	f.take(e, numbers, r)
	return true
}

// readSpan returns the range that is written so; its ends may be in the wrong order.
func readSpan(word string) (api.Range, bool) {
	rest, opened := strings.CutPrefix(word, "[")
	inner, closed := strings.CutSuffix(rest, "]")
	least, most, found := strings.Cut(inner, ",")
	ends, ok := readNumbers([]string{least, most})
	if !opened || !closed || !found || !ok {
		return api.Range{}, false
	}
	return api.Range{Min: ends[0], Max: ends[1]}, true
}

// readNumbers returns the numbers that are written so. A number is written in one way alone, so that what is read has to be what would be written.
func readNumbers(words []string) ([]int, bool) {
	var numbers []int
	for _, word := range words {
		n, err := strconv.Atoi(word)
		if err != nil || strconv.Itoa(n) != word || n < 0 || n > maxNumber {
			return nil, false
		}
		numbers = append(numbers, n)
	}
	return numbers, true
}
