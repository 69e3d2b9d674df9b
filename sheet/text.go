package sheet

import (
	"errors"
	"strconv"
	"strings"

	"musette/api"
)

// maxNumber is the greatest number that has at most as many digits as a text may have.
const maxNumber = 999

// The words of a text.
const (
	sheetWord = "sheet"
	blankWord = "blank"
	sawnWord  = "sawn"
	grainWord = "grain"
	anyWord   = "any"
)

// The marks between two numbers: of the sides of a rectangle, and of the ends of a range.
const (
	sidesMark = "x"
	rangeMark = "~"
)

// Write returns a stock as a text.
func Write(s api.Sheet) (string, api.Errno) {
	if e := Check(s); e != api.OK {
		return "", e
	}
	text := lineOf(sheetWord, pairOf(s.Long, sidesMark, s.Wide), spanOf(s.Along), spanOf(s.Across))
	for _, p := range s.Parts {
		grain := anyWord
		if p.Grain {
			grain = grainWord
		}
		text += lineOf(blankWord, pairOf(p.Long, sidesMark, p.Wide), grain, strconv.Itoa(p.Pattern))
	}
	return text + lineOf(sawnWord), api.OK
}

// lineOf returns a line of words.
func lineOf(words ...string) string { return strings.Join(words, " ") + "\n" }

// pairOf returns two numbers as they are written, with a mark between them.
func pairOf(a int, mark string, b int) string { return strconv.Itoa(a) + mark + strconv.Itoa(b) }

// spanOf returns a range as it is written.
func spanOf(r api.Range) string { return pairOf(r.Min, rangeMark, r.Max) }

// Read returns the stock of a text, or the error of the text and the number of the line in which it is.
func Read(text string) (s api.Sheet, line int, e api.Errno) {
	if len(text) > api.MaxSheet {
		return api.Sheet{}, 0, api.ErrLong
	}
	s, err := parse(text)
	var wrong wrongLine
	if errors.As(err, &wrong) {
		return api.Sheet{}, wrong.line, api.ErrText
	}
	if e := Check(s); e != api.OK {
		return api.Sheet{}, 0, e
	}
	return s, 0, api.OK
}

// wrongLine is the error of a text: the number of the first line that is not as said.
type wrongLine struct{ line int }

// Error says it in words.
func (w wrongLine) Error() string { return "line " + strconv.Itoa(w.line) + " is not as said" }

// parse returns the stock that a text says; its error is a wrongLine.
func parse(text string) (s api.Sheet, err error) {
	line := 1
	for ready := false; !ready; line++ {
		content, rest, ended := strings.Cut(text, "\n")
		words := reader{left: strings.Split(content, " ")}
		ready = words.take(&s, line)
		if !ended || !words.ended() {
			return s, wrongLine{line}
		}
		text = rest
	}
	if text != "" {
		return s, wrongLine{line}
	}
	return s, nil
}

// reader reads the words of a line one after the other; it is lost as soon as one is not as said.
type reader struct {
	left []string
	lost bool
}

// take takes a line into a stock, and tells whether it is the last one.
func (r *reader) take(s *api.Sheet, line int) (last bool) {
	word := r.next()
	switch word {
	case sheetWord:
		s.Long, s.Wide = r.pair(sidesMark)
		s.Along = r.span()
		s.Across = r.span()
		r.need(line == 1)
	case blankWord:
		s.Parts = append(s.Parts, r.part())
		fallthrough
	case sawnWord:
		r.need(line > 1)
	default:
		r.need(false)
	}
	return word == sawnWord
}

// need tells that something has to be so if the line is as said.
func (r *reader) need(so bool) { r.lost = r.lost || !so }

// ended tells whether all words were read, and were as said.
func (r *reader) ended() bool { return !r.lost && len(r.left) == 0 }

// next returns the next word; if there is none, an empty one, which is as said nowhere.
func (r *reader) next() string {
	if len(r.left) == 0 {
		return ""
	}
	word := r.left[0]
	r.left = r.left[1:]
	return word
}

// part reads the next words as a blank.
func (r *reader) part() api.Part {
	var p api.Part
	p.Long, p.Wide = r.pair(sidesMark)
	grain := r.next()
	r.need(grain == grainWord || grain == anyWord)
	p.Grain = grain == grainWord
	p.Pattern = r.value(r.next())
	return p
}

// span reads the next word as a range; its ends may be in the wrong order.
func (r *reader) span() api.Range {
	least, most := r.pair(rangeMark)
	return api.Range{Min: least, Max: most}
}

// pair reads the next word as two numbers with a mark between them. One that is missing is empty, so that it is no number.
func (r *reader) pair(mark string) (a, b int) {
	one, other, _ := strings.Cut(r.next(), mark)
	return r.value(one), r.value(other)
}

// value returns the number that is written so. A number is written in one way alone, so that what is read has to be what would be written.
func (r *reader) value(text string) int {
	n, err := strconv.Atoi(text)
	r.need(err == nil && strconv.Itoa(n) == text && n >= 0 && n <= maxNumber)
	return n
}
