package reed

import (
	"strconv"
	"strings"

	"musette/api"
)

// maxNumber is the greatest number that has at most as many digits as a text of a job may have.
const maxNumber = 999

// rule is how a line of a text is written: its word, as many ranges, and as many numbers after them; and what takes these into a job. A line that may be repeated may also be missing.
type rule struct {
	word            string
	repeated        bool
	ranges, numbers int
	take            func(j *api.Job, ranges []api.Range, numbers []int)
}

// Write returns a job as a text.
func Write(j api.Job) (string, api.Errno) {
	if e := Check(j); e != api.OK {
		return "", e
	}
	text := lineOf("tongue", span(j.Pitch), span(j.Tip), span(j.Root))
	text += lineOf("file", span(j.Up), span(j.Down), span(j.TipWear), span(j.RootWear), strconv.Itoa(j.Least))
	for _, shift := range j.Shifts {
		text += lineOf("shift", span(shift))
	}
	return text + lineOf("pass", strconv.Itoa(j.Within), strconv.Itoa(j.Meter)), api.OK
}

// Read returns the job of a text, or the error of the text and the number of the line in which it is.
func Read(text string) (j api.Job, line int, e api.Errno) {
	if len(text) > api.MaxReed {
		return api.Job{}, 0, api.ErrLong
	}
	j, line = parse(text)
	if line > 0 {
		return api.Job{}, line, api.ErrText
	}
	if e := Check(j); e != api.OK {
		return api.Job{}, 0, e
	}
	return j, 0, api.OK
}

// lineOf returns a line of a text with these parts.
func lineOf(parts ...string) string { return strings.Join(parts, " ") + "\n" }

// span returns a range as it is written.
func span(r api.Range) string { return strconv.Itoa(r.Min) + ":" + strconv.Itoa(r.Max) }

// rules returns how the lines of a text are written, in their order.
func rules() []rule {
	return []rule{
		{word: "tongue", ranges: 3, take: func(j *api.Job, ranges []api.Range, _ []int) {
			j.Pitch, j.Tip, j.Root = ranges[0], ranges[1], ranges[2]
		}},
		{word: "file", ranges: 4, numbers: 1, take: func(j *api.Job, ranges []api.Range, numbers []int) {
			j.Up, j.Down, j.TipWear, j.RootWear = ranges[0], ranges[1], ranges[2], ranges[3]
			j.Least = numbers[0]
		}},
		{word: "shift", repeated: true, ranges: 1, take: func(j *api.Job, ranges []api.Range, _ []int) {
			j.Shifts = append(j.Shifts, ranges[0])
		}},
		{word: "pass", numbers: 2, take: func(j *api.Job, _ []api.Range, numbers []int) {
			j.Within, j.Meter = numbers[0], numbers[1]
		}},
	}
}

// parse returns the job that a text says, or the number of the first line that is not as it has to be.
func parse(text string) (j api.Job, line int) {
	rules := rules()
	line = 1
	for len(rules) > 0 {
		content, rest, ended := strings.Cut(text, "\n")
		parts := strings.Split(content, " ")
		if rules[0].repeated && parts[0] != rules[0].word {
			rules = rules[1:] // no repeated line is the last one
		}
		if !ended || !rules[0].apply(&j, parts) {
			return j, line
		}
		if !rules[0].repeated {
			rules = rules[1:]
		}
		text = rest
		line++
	}
	if text != "" {
		return j, line
	}
	return j, 0
}

// apply takes the parts of a line into a job, and tells whether they are as they have to be.
func (r rule) apply(j *api.Job, parts []string) bool {
	if len(parts) != 1+r.ranges+r.numbers || parts[0] != r.word {
		return false
	}
	var ranges []api.Range
	var numbers []int
	for i, part := range parts[1:] {
		if i < r.ranges {
			value, ok := readSpan(part)
			if !ok {
				return false
			}
			ranges = append(ranges, value)
			continue
		}
		value, ok := readNumber(part)
		if !ok {
			return false
		}
		numbers = append(numbers, value)
	}
	r.take(j, ranges, numbers)
	return true
}

// readSpan returns the range that is written so; its ends may be in the wrong order.
func readSpan(text string) (api.Range, bool) {
	from, to, found := strings.Cut(text, ":")
	least, leastOK := readNumber(from)
	most, mostOK := readNumber(to)
	return api.Range{Min: least, Max: most}, found && leastOK && mostOK
}

// readNumber returns the number that is written so. A number is written in one way alone, so that what is read has to be what would be written.
func readNumber(text string) (int, bool) {
	n, err := strconv.Atoi(text)
	ok := err == nil && strconv.Itoa(n) == text && -maxNumber <= n && n <= maxNumber
	return n, ok
}
