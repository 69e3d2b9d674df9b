package batch

import (
	"errors"
	"strconv"
	"strings"

	"musette/api"
)

// maxNumber is the greatest number that has at most as many digits as a text may have.
const maxNumber = 999

// The words of a text.
const (
	journalWord = "journal"
	inWord      = "in"
	outWord     = "out"
	countWord   = "count"
	endWord     = "end"
	lostWord    = "?"
)

// The letters of bins: one gives out first what came in first, out of another one anything may be taken.
const (
	firstLetter = 'f'
	anyLetter   = 'a'
)

// mark stands between the parts of a line.
const mark = "|"

// Write returns a journal as a text.
func Write(j api.Journal) (string, api.Errno) {
	if e := Check(j); e != api.OK {
		return "", e
	}
	text := lineOf(journalWord, strconv.Itoa(j.Instruments), lettersOf(j.First))
	for _, m := range j.Moves {
		text += moveLine(m)
	}
	return text + lineOf(endWord), api.OK
}

// lineOf returns a line of parts.
func lineOf(parts ...string) string { return strings.Join(parts, mark) + "\n" }

// lettersOf returns the letters of bins.
func lettersOf(first []bool) string {
	letters := ""
	for _, is := range first {
		if is {
			letters += string(firstLetter)
		} else {
			letters += string(anyLetter)
		}
	}
	return letters
}

// moveLine returns the line of a move.
func moveLine(m api.Move) string {
	bin, least, most := strconv.Itoa(m.Bin), strconv.Itoa(m.Amount.Min), strconv.Itoa(m.Amount.Max)
	switch m.Kind {
	case api.MoveIn:
		return lineOf(inWord, bin, least, most)
	case api.MoveOut:
		return lineOf(outWord, bin, instrumentWord(m.Instrument), least, most)
	}
	return lineOf(countWord, bin, least, most)
}

// instrumentWord returns the instrument of a move out as it is written.
func instrumentWord(instrument int) string {
	if instrument == lost {
		return lostWord
	}
	return strconv.Itoa(instrument)
}

// Read returns the journal of a text, or the error of the text and the number of the line in which it is.
func Read(text string) (j api.Journal, line int, e api.Errno) {
	if len(text) > api.MaxJournal {
		return api.Journal{}, 0, api.ErrLong
	}
	j, err := parse(text)
	var wrong wrongLine
	if errors.As(err, &wrong) {
		return api.Journal{}, wrong.line, api.ErrText
	}
	if e := Check(j); e != api.OK {
		return api.Journal{}, 0, e
	}
	return j, 0, api.OK
}

// wrongLine is the error of a text: the number of the first line that is not as said.
type wrongLine struct{ line int }

// Error says it in words.
func (w wrongLine) Error() string { return "line " + strconv.Itoa(w.line) + " is not as said" }

// parse returns the journal that a text says; its error is a wrongLine.
func parse(text string) (j api.Journal, err error) {
	line := 1
	for ready := false; !ready; line++ {
		content, rest, ended := strings.Cut(text, "\n")
		parts := reader{left: strings.Split(content, mark)}
		ready = parts.take(&j, line)
		if !ended || !parts.ended() {
			return j, wrongLine{line}
		}
		text = rest
	}
	if text != "" {
		return j, wrongLine{line}
	}
	return j, nil
}

// reader reads the parts of a line one after the other; it is lost as soon as one is not as said.
type reader struct {
	left []string
	lost bool
}

// take takes a line into a journal, and tells whether it is the last one.
func (r *reader) take(j *api.Journal, line int) (last bool) {
	word := r.next()
	r.need((word == journalWord) == (line == 1))
	switch word {
	case journalWord:
		j.Instruments = r.number()
		j.First = r.bins()
	case inWord:
		j.Moves = append(j.Moves, r.move(api.MoveIn))
	case outWord:
		j.Moves = append(j.Moves, r.move(api.MoveOut))
	case countWord:
		j.Moves = append(j.Moves, r.move(api.MoveCount))
	default:
		r.need(word == endWord)
	}
	return word == endWord
}

// need tells that something has to be so if the line is as said.
func (r *reader) need(so bool) { r.lost = r.lost || !so }

// ended tells whether all parts were read, and were as said.
func (r *reader) ended() bool { return !r.lost && len(r.left) == 0 }

// next returns the next part; if there is none, an empty one, and the line is not as said.
func (r *reader) next() string {
	if len(r.left) == 0 {
		r.need(false)
		return ""
	}
	part := r.left[0]
	r.left = r.left[1:]
	return part
}

// move reads the next parts as a move of a kind.
func (r *reader) move(kind int) api.Move {
	m := api.Move{Kind: kind, Bin: r.number()}
	if kind == api.MoveOut {
		m.Instrument = r.instrument()
	}
	m.Amount.Min = r.number()
	m.Amount.Max = r.number()
	return m
}

// instrument reads the next part as the instrument of a move out.
func (r *reader) instrument() int {
	part := r.next()
	if part == lostWord {
		return lost
	}
	return r.value(part)
}

// bins reads the next part as bins, of which there may be none.
func (r *reader) bins() []bool {
	var first []bool
	for _, letter := range r.next() {
		r.need(letter == firstLetter || letter == anyLetter)
		first = append(first, letter == firstLetter)
	}
	return first
}

// number reads the next part as a number.
func (r *reader) number() int { return r.value(r.next()) }

// value returns the number that is written so. A number is written in one way alone, so that what is read has to be what would be written.
func (r *reader) value(text string) int {
	n, err := strconv.Atoi(text)
	r.need(err == nil && strconv.Itoa(n) == text && n >= 0 && n <= maxNumber)
	return n
}
