package hand

import (
	"errors"
	"slices"
	"strconv"
	"strings"

	"musette/api"
	"musette/meter"
)

// maxNumber is the greatest number that has at most as many digits as a text may have.
const maxNumber = 999999

// The words that lines begin with.
const (
	handsWord  = "hands"
	setWord    = "set"
	tunedWord  = "tuned"
	closedWord = "closed"
)

// noWord stands for the line ahead of the first one.
const noWord = ""

// lastOfEar is the last line of an ear.
const lastOfEar = "heard\n"

// wrong is what is wrong with a text, and the number of the line in which it is; 0 if it is in none.
type wrong struct {
	line int
	code api.Errno
}

// Error says in words what is wrong.
func (w wrong) Error() string { return "line " + strconv.Itoa(w.line) + ": " + w.code.Error() }

// Write returns a roster as a text.
func Write(r api.Roster) (string, api.Errno) {
	if e := Check(r); e != api.OK {
		return "", e
	}
	text := lineOf(handsWord, strconv.Itoa(r.Hands), span(r.Drift), strconv.Itoa(r.Skill))
	for _, s := range r.Sets {
		text += lineOf(setWord, strconv.Itoa(s.Hand), strconv.Itoa(s.Day))
	}
	for _, t := range r.Entries {
		ear, _ := meter.Write(t.Ear)
		text += lineOf(tunedWord, strconv.Itoa(t.Day), strconv.Itoa(t.Hand), strconv.Itoa(t.Due)) + ear
	}
	return text + lineOf(closedWord), api.OK
}

// lineOf returns a line of words.
func lineOf(words ...string) string { return strings.Join(words, " ") + "\n" }

// span returns a range as it is written.
func span(r api.Range) string { return strconv.Itoa(r.Min) + ".." + strconv.Itoa(r.Max) }

// Read returns the roster of a text, or the error of the text and the number of the line in which it is.
func Read(text string) (r api.Roster, line int, e api.Errno) {
	if len(text) > api.MaxRoster {
		return api.Roster{}, 0, api.ErrLong
	}
	r, err := parse(text)
	var w wrong
	if errors.As(err, &w) {
		return api.Roster{}, w.line, w.code
	}
	if e := Check(r); e != api.OK {
		return api.Roster{}, 0, e
	}
	return r, 0, api.OK
}

// page is a text that is read line by line: what was read of it, the number of the next line, and all that is left from there on.
type page struct {
	api.Roster
	line int
	left string
}

// lineForm is of which form the lines are that begin with a word: which words those may begin with that they come after, and how they are taken, which tells whether they are as said.
type lineForm struct {
	after []string
	take  func(r *api.Roster, words []string) bool
}

// lineForms returns the forms of all lines but those of ears, by the words that they begin with.
func lineForms() map[string]lineForm {
	return map[string]lineForm{
		handsWord: {[]string{noWord}, takeHands},
		setWord: {[]string{handsWord, setWord}, func(r *api.Roster, words []string) bool {
			var s api.Setting
			ok := readNumbers(words, &s.Hand, &s.Day)
			r.Sets = append(r.Sets, s)
			return ok
		}},
		tunedWord: {[]string{handsWord, setWord, tunedWord}, func(r *api.Roster, words []string) bool {
			var t api.Tuned
			ok := readNumbers(words, &t.Day, &t.Hand, &t.Due)
			r.Entries = append(r.Entries, t)
			return ok
		}},
		closedWord: {[]string{handsWord, setWord, tunedWord}, func(_ *api.Roster, words []string) bool {
			return readNumbers(words)
		}},
	}
}

// takeHands takes what the first line says; the ends of its range may be in the wrong order.
func takeHands(r *api.Roster, words []string) bool {
	if len(words) != 3 {
		return false
	}
	least, most, found := strings.Cut(words[1], "..")
	return found && readNumbers([]string{words[0], least, most, words[2]}, &r.Hands, &r.Drift.Min, &r.Drift.Max, &r.Skill)
}

// readNumbers reads just as many words as numbers, and tells whether they are written so. A number is written in one way alone, so that what is read has to be what would be written.
func readNumbers(words []string, numbers ...*int) bool {
	if len(words) != len(numbers) {
		return false
	}
	for i, word := range words {
		n, err := strconv.Atoi(word)
		if err != nil || strconv.Itoa(n) != word || n < -maxNumber || n > maxNumber {
			return false
		}
		*numbers[i] = n
	}
	return true
}

// parse returns the roster that a text says; its error is a wrong.
func parse(text string) (api.Roster, error) {
	p := page{line: 1, left: text}
	for before := noWord; before != closedWord; {
		word, err := p.takeLine(before)
		if err != nil {
			return api.Roster{}, err
		}
		if word == tunedWord {
			if err := p.takeEar(); err != nil {
				return api.Roster{}, err
			}
		}
		before = word
	}
	if p.left != "" {
		return api.Roster{}, wrong{p.line, api.ErrText}
	}
	return p.Roster, nil
}

// takeLine takes the next line, and returns the word that it begins with.
func (p *page) takeLine(before string) (word string, err error) {
	content, rest, ended := strings.Cut(p.left, "\n")
	words := strings.Split(content, " ")
	form, there := lineForms()[words[0]]
	if !ended || !there || !slices.Contains(form.after, before) || !form.take(&p.Roster, words[1:]) {
		return "", wrong{p.line, api.ErrText}
	}
	p.line++
	p.left = rest
	return words[0], nil
}

// takeEar takes the ear of the last entry.
func (p *page) takeEar() error {
	text, rest := cutEar(p.left)
	ear, line, e := meter.Read(text)
	switch e {
	case api.OK:
	case api.ErrText:
		return wrong{p.line + line - 1, e}
	default:
		return wrong{0, e}
	}
	p.Entries[len(p.Entries)-1].Ear = ear
	p.line += strings.Count(text, "\n")
	p.left = rest
	return nil
}

// cutEar returns the lines of a text up to the last one of an ear, and those behind it. If it is missing, the ear is all that there is, so that its reader finds the first line that is not as said.
func cutEar(text string) (ear, rest string) {
	at := strings.Index("\n"+text, "\n"+lastOfEar)
	if at < 0 {
		return text, ""
	}
	end := at + len(lastOfEar)
	return text[:end], text[end:]
}
