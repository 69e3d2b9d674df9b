package voice

import (
	"strconv"
	"strings"

	"musette/api"
)

// maxNumber is the greatest number that has at most as many digits as a text may have.
const maxNumber = 999

// kind is a kind of lines: its word, what its lines say of a box, and what takes a line into a box. A kind that may be repeated may also be missing.
type kind struct {
	word     string
	repeated bool
	say      func(b api.Box) []string
	take     func(b *api.Box, words *reader)
}

// Write returns a box as a text.
func Write(b api.Box) (string, api.Errno) {
	if e := Check(b); e != api.OK {
		return "", e
	}
	text := ""
	for _, k := range kinds() {
		for _, said := range k.say(b) {
			text += k.word + "," + said + "\n"
		}
	}
	return text, api.OK
}

// Read returns the box of a text, or the error of the text and the number of the line in which it is.
func Read(text string) (b api.Box, line int, e api.Errno) {
	if len(text) > api.MaxBox {
		return api.Box{}, 0, api.ErrLong
	}
	b, line = parse(text)
	if line > 0 {
		return api.Box{}, line, api.ErrText
	}
	if e := Check(b); e != api.OK {
		return api.Box{}, 0, e
	}
	return b, 0, api.OK
}

// kinds returns all kinds of lines, in their order.
func kinds() []kind {
	return []kind{
		{
			word: "law",
			say: func(b api.Box) []string {
				return []string{numbers(b.First, b.Step, b.Span, b.Press, b.Note)}
			},
			take: func(b *api.Box, words *reader) {
				words.numbers(&b.First, &b.Step, &b.Span, &b.Press, &b.Note)
			},
		},
		{
			word:     "low",
			repeated: true,
			say:      func(b api.Box) []string { return sounds(b.Lows) },
			take:     func(b *api.Box, words *reader) { b.Lows = append(b.Lows, words.sound()) },
		},
		{
			word:     "high",
			repeated: true,
			say:      func(b api.Box) []string { return sounds(b.Highs) },
			take:     func(b *api.Box, words *reader) { b.Highs = append(b.Highs, words.sound()) },
		},
		{
			word: "file",
			say: func(b api.Box) []string {
				wear := ranges(b.Up, b.Down, b.TipWear, b.RootWear)
				return []string{joined(wear, numbers(b.Least), ranges(b.Tip, b.Root), numbers(b.Meter))}
			},
			take: func(b *api.Box, words *reader) {
				words.ranges(&b.Up, &b.Down, &b.TipWear, &b.RootWear)
				words.numbers(&b.Least)
				words.ranges(&b.Tip, &b.Root)
				words.numbers(&b.Meter)
			},
		},
	}
}

// joined returns parts of a line with a comma between them.
func joined(parts ...string) string { return strings.Join(parts, ",") }

// numbers returns numbers as they are written.
func numbers(list ...int) string {
	var parts []string
	for _, n := range list {
		parts = append(parts, strconv.Itoa(n))
	}
	return joined(parts...)
}

// ranges returns ranges as they are written.
func ranges(list ...api.Range) string {
	var parts []string
	for _, r := range list {
		parts = append(parts, strconv.Itoa(r.Min)+".."+strconv.Itoa(r.Max))
	}
	return joined(parts...)
}

// sounds returns sounds as they are written.
func sounds(list []api.Sound) []string {
	var parts []string
	for _, s := range list {
		parts = append(parts, ranges(s.Tone, s.Slope))
	}
	return parts
}

// parse returns the box that a text says, or the number of the first line that is not as said.
func parse(text string) (b api.Box, line int) {
	left := kinds()
	for line = 1; len(left) > 0; line++ {
		content, rest, ended := strings.Cut(text, "\n")
		words := reader{left: strings.Split(content, ",")}
		word := words.next()
		for left[0].repeated && left[0].word != word {
			left = left[1:] // no kind that may be repeated is the last one
		}
		if !ended || left[0].word != word {
			return b, line
		}
		left[0].take(&b, &words)
		if !words.ended() {
			return b, line
		}
		if !left[0].repeated {
			left = left[1:]
		}
		text = rest
	}
	if text != "" {
		return b, line
	}
	return b, 0
}

// reader reads the words of a line one after the other; it is lost as soon as one is not as said.
type reader struct {
	left []string
	lost bool
}

// ended tells whether all words were read, and were as said.
func (r *reader) ended() bool { return !r.lost && len(r.left) == 0 }

// next returns the next word; if there is none, an empty one, which is no number.
func (r *reader) next() string {
	if len(r.left) == 0 {
		return ""
	}
	word := r.left[0]
	r.left = r.left[1:]
	return word
}

// numbers reads the next words as numbers.
func (r *reader) numbers(list ...*int) {
	for _, n := range list {
		*n = r.number(r.next())
	}
}

// ranges reads the next words as ranges; their ends may be in the wrong order.
func (r *reader) ranges(list ...*api.Range) {
	for _, span := range list {
		from, to, found := strings.Cut(r.next(), "..")
		*span = api.Range{Min: r.number(from), Max: r.number(to)}
		r.lost = r.lost || !found
	}
}

// sound reads the next words as a sound.
func (r *reader) sound() api.Sound {
	var s api.Sound
	r.ranges(&s.Tone, &s.Slope)
	return s
}

// number returns the number that is written so. A number is written in one way alone, so that what is read has to be what would be written.
func (r *reader) number(text string) int {
	n, err := strconv.Atoi(text)
	if err != nil || strconv.Itoa(n) != text || n < -maxNumber || n > maxNumber {
		r.lost = true
	}
	return n
}
