package bellow

import (
	"strconv"
	"strings"

	"musette/api"
)

// maxNumber is the greatest number that has at most as many digits as a text may have.
const maxNumber = 9999

// The parts of a text, in their order.
const (
	partFull = iota
	partCorners
	partTests
	partNotes
	partFine
)

// Write returns a bellows and a piece as a text.
func Write(b api.Bellow, p []api.Note) (string, api.Errno) {
	if x := first(Check(b), Piece(p)); x != api.OK {
		return "", x
	}
	text := lineOf("full", strconv.Itoa(b.Full), written(b.Air))
	for _, r := range b.Corners {
		text += lineOf("corner", written(r))
	}
	for _, t := range b.Tests {
		text += lineOf("test", joined("+", t.Open...), strconv.Itoa(t.Seconds), written(t.Lost))
	}
	for _, n := range p {
		word := "note"
		if n.Rest {
			word = "rest"
		}
		text += lineOf(word, strconv.Itoa(n.Seconds), written(n.Air))
	}
	return text + lineOf("fine"), api.OK
}

// Read returns the bellows and the piece of a text, or the error of the text and the number of the line in which it is.
func Read(text string) (b api.Bellow, p []api.Note, line int, e api.Errno) {
	if len(text) > api.MaxPiece {
		return api.Bellow{}, nil, 0, api.ErrLong
	}
	b, p, line = parse(text)
	if line > 0 {
		return api.Bellow{}, nil, line, api.ErrText
	}
	if x := first(Check(b), Piece(p)); x != api.OK {
		return api.Bellow{}, nil, 0, x
	}
	return b, p, 0, api.OK
}

// lineOf returns a line of a text with these words.
func lineOf(words ...string) string { return strings.Join(words, " ") + "\n" }

// joined returns numbers as they are written, with a mark between them.
func joined(mark string, list ...int) string {
	var parts []string
	for _, n := range list {
		parts = append(parts, strconv.Itoa(n))
	}
	return strings.Join(parts, mark)
}

// written returns a range as it is written.
func written(r api.Range) string { return joined("-", r.Min, r.Max) }

// parse returns the bellows and the piece that a text says, or the number of the first line that is not as said.
func parse(text string) (b api.Bellow, p []api.Note, line int) {
	line = 1
	for part := partFull; part != partFine; line++ {
		content, rest, ended := strings.Cut(text, "\n")
		next, ok := takeLine(&b, &p, content)
		// The line "full" is the first one, and only that.
		if !ended || !ok || next < part || (next == partFull) != (line == 1) {
			return b, p, line
		}
		part, text = next, rest
	}
	if text != "" {
		return b, p, line
	}
	return b, p, 0
}

// takeLine takes a line into a bellows or a piece, and tells to which part of the text it belongs, and whether it is as said.
func takeLine(b *api.Bellow, p *[]api.Note, line string) (part int, ok bool) {
	var n api.Note
	var t api.Leakage
	words := reader{left: strings.Split(line, " ")}
	switch words.next() {
	case "full":
		part = partFull
		b.Full = words.number()
		b.Air = words.span()
	case "corner":
		part = partCorners
		b.Corners = append(b.Corners, words.span())
	case "test":
		part = partTests
		t.Open = words.numbers("+")
		t.Seconds = words.number()
		t.Lost = words.span()
		b.Tests = append(b.Tests, t)
	case "rest":
		n.Rest = true
		fallthrough
	case "note":
		part = partNotes
		n.Seconds = words.number()
		n.Air = words.span()
		*p = append(*p, n)
	case "fine":
		part = partFine
	default:
		return part, false
	}
	return part, words.ended()
}

// reader reads the words of a line one after the other; it is lost as soon as one is not as said.
type reader struct {
	left []string
	lost bool
}

// ended tells whether all words were read, and were as said.
func (r *reader) ended() bool { return !r.lost && len(r.left) == 0 }

// next returns the next word; if there is none, an empty one, which is no number.
func (r *reader) next() string {
	if len(r.left) == 0 {
		return ""
	}
	word := r.left[0]
	r.left = r.left[1:]
	return word
}

// numbers returns the numbers of the next word, at least one, with a mark between them. A number is written in one way alone, so that what is read has to be what would be written.
func (r *reader) numbers(mark string) []int {
	var list []int
	for _, part := range strings.Split(r.next(), mark) {
		n, err := strconv.Atoi(part)
		if err != nil || strconv.Itoa(n) != part || n < 0 || n > maxNumber {
			r.lost = true
		}
		list = append(list, n)
	}
	return list
}

// number returns the number of the next word.
func (r *reader) number() int {
	// No word has a blank in it, so that there is just one number.
	return r.numbers(" ")[0]
}

// span returns the range of the next word; its ends may be in the wrong order.
func (r *reader) span() api.Range {
	ends := r.numbers("-")
	if len(ends) != 2 {
		r.lost = true
		return api.Range{}
	}
	return api.Range{Min: ends[0], Max: ends[1]}
}
