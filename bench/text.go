package bench

import (
	"strconv"
	"strings"

	"musette/api"
)

// maxNumber is the greatest number that has at most as many digits as a text may have.
const maxNumber = 999

// The words with which lines begin.
const (
	benchesWord = "benches"
	orderWord   = "order"
	closedWord  = "closed"
)

// Write returns a shop as a text.
func Write(s api.Shop) (string, api.Errno) {
	if e := Check(s); e != api.OK {
		return "", e
	}
	text := lineOf(benchesWord, strconv.Itoa(s.Benches))
	for _, t := range s.Tasks {
		words := []string{orderWord, strconv.Itoa(t.Ready), strconv.Itoa(t.Due)}
		for _, w := range t.Works {
			words = append(words, written(w))
		}
		text += lineOf(words...)
	}
	return text + lineOf(closedWord), api.OK
}

// lineOf returns a line of words.
func lineOf(words ...string) string { return strings.Join(words, " ") + "\n" }

// written returns a work as it is written.
func written(w api.Work) string {
	return strconv.Itoa(w.Bench) + ":" + strconv.Itoa(w.Hours.Min) + "-" + strconv.Itoa(w.Hours.Max)
}

// Read returns the shop of a text, or the error of the text and the number of the line in which it is.
func Read(text string) (s api.Shop, line int, e api.Errno) {
	if len(text) > api.MaxShop {
		return api.Shop{}, 0, api.ErrLong
	}
	s, line = parse(text)
	if line > 0 {
		return api.Shop{}, line, api.ErrText
	}
	if e := Check(s); e != api.OK {
		return api.Shop{}, 0, e
	}
	return s, 0, api.OK
}

// parse returns the shop that a text says, or the number of the first line that is not as said.
func parse(text string) (s api.Shop, line int) {
	word := ""
	for line = 1; word != closedWord; line++ {
		content, rest, ended := strings.Cut(text, "\n")
		words := reader{left: strings.Split(content, " ")}
		word = words.next()
		switch {
		case (word == benchesWord) != (line == 1):
			return s, line // the line "benches" is the first one, and only that
		case word == benchesWord:
			s.Benches = words.number()
		case word == orderWord:
			s.Tasks = append(s.Tasks, words.task())
		case word != closedWord:
			return s, line
		}
		if !ended || !words.ended() {
			return s, line
		}
		text = rest
	}
	if text != "" {
		return s, line
	}
	return s, 0
}

// reader reads the words of a line one after the other; it is lost as soon as one is not as said.
type reader struct {
	left []string
	lost bool
}

// ended tells whether all words were read, and were as said.
func (r *reader) ended() bool { return !r.lost && len(r.left) == 0 }

// next returns the next word; if there is none, an empty one, which is as said nowhere.
func (r *reader) next() string {
	if len(r.left) == 0 {
		return ""
	}
	word := r.left[0]
	r.left = r.left[1:]
	return word
}

// number reads the next word as a number.
func (r *reader) number() int { return r.value(r.next()) }

// task reads all words that are left as an order, which may have no work.
func (r *reader) task() api.Task {
	t := api.Task{Ready: r.number(), Due: r.number()}
	for len(r.left) > 0 {
		t.Works = append(t.Works, r.work())
	}
	return t
}

// work reads the next word as a work; the ends of its hours may be in the wrong order. A part that is missing is empty, so that it is no number.
func (r *reader) work() api.Work {
	bench, hours, _ := strings.Cut(r.next(), ":")
	least, most, _ := strings.Cut(hours, "-")
	return api.Work{Bench: r.value(bench), Hours: api.Range{Min: r.value(least), Max: r.value(most)}}
}

// value returns the number that is written so. A number is written in one way alone, so that what is read has to be what would be written.
func (r *reader) value(text string) int {
	n, err := strconv.Atoi(text)
	if err != nil || strconv.Itoa(n) != text || n < 0 || n > maxNumber {
		r.lost = true
	}
	return n
}
