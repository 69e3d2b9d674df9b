package plate

import (
	"slices"
	"strconv"
	"strings"

	"musette/api"
)

// maxNumber is the greatest number that has at most as many digits as a text may have.
const maxNumber = 9999

// The words that lines begin with.
const (
	worksWord  = "works"
	modelWord  = "model"
	lookWord   = "look"
	oldWord    = "old"
	museumWord = "museum"
)

// noWord stands for the line ahead of the first one.
const noWord = ""

// noPlate is how an empty plate is written.
const noPlate = "-"

// Write returns a catalogue and an instrument as a text.
func Write(c api.Catalogue, o api.Old) (string, api.Errno) {
	if e := Valid(c, o); e != api.OK {
		return "", e
	}
	text := lineOf(worksWord, strconv.Itoa(c.Features))
	for _, m := range c.Models {
		text += lineOf(modelWord, strconv.Itoa(m.First))
		for at, list := range m.Looks {
			text += lineOf(lookWord, listWord(list), rangeWord(m.Numbers[at]))
		}
	}
	return text + lineOf(oldWord, listWord(o.Seen), plateWord(o.Plate), strconv.Itoa(o.Changed)) + lineOf(museumWord), api.OK
}

// lineOf returns a line of words.
func lineOf(words ...string) string { return strings.Join(words, " ") + "\n" }

// listWord returns numbers as they are written.
func listWord(list []int) string {
	var numbers []string
	for _, n := range list {
		numbers = append(numbers, strconv.Itoa(n))
	}
	return strings.Join(numbers, ".")
}

// rangeWord returns a range as it is written.
func rangeWord(r api.Range) string { return strconv.Itoa(r.Min) + "=" + strconv.Itoa(r.Max) }

// plateWord returns a plate as it is written.
func plateWord(plate string) string {
	if plate == "" {
		return noPlate
	}
	return plate
}

// Read returns the catalogue and the instrument of a text, or the error of the text and the number of the line in which it is.
func Read(text string) (c api.Catalogue, o api.Old, line int, e api.Errno) {
	if len(text) > api.MaxMuseum {
		return api.Catalogue{}, api.Old{}, 0, api.ErrLong
	}
	m, line := parse(text)
	if line > 0 {
		return api.Catalogue{}, api.Old{}, line, api.ErrText
	}
	if e := Valid(m.Catalogue, m.old); e != api.OK {
		return api.Catalogue{}, api.Old{}, 0, e
	}
	return m.Catalogue, m.old, 0, api.OK
}

// museum is what was read of a text.
type museum struct {
	api.Catalogue
	old api.Old
}

// demand leaves the reading of a text unless something is so.
func demand(so bool) {
	if !so {
		panic(api.ErrText)
	}
}

// parse returns what a text says, or nothing and the number of the first line that is not as said.
func parse(text string) (m museum, line int) {
	defer func() {
		if recover() != nil {
			m = museum{}
		}
	}()
	forms, before := lineForms(), noWord
	for line = 1; before != museumWord; line++ {
		content, rest, ended := strings.Cut(text, "\n")
		words := strings.Split(content, " ")
		form, there := forms[words[0]]
		demand(ended && there && slices.Contains(form.after, before) && len(words) == 1+form.words)
		form.take(&m, words[1:])
		before, text = words[0], rest
	}
	demand(text == "")
	return m, 0
}

// lineForm is of which form the lines are that begin with a word: which words those may begin with that they come after, how many words more there are, and how these are taken.
type lineForm struct {
	after []string
	words int
	take  func(m *museum, words []string)
}

// lineForms returns the forms of all lines, by the words that they begin with.
func lineForms() map[string]lineForm {
	return map[string]lineForm{
		worksWord: {[]string{noWord}, 1, func(m *museum, words []string) {
			m.Features = number(words[0])
		}},
		modelWord: {[]string{worksWord, modelWord, lookWord}, 1, func(m *museum, words []string) {
			m.Models = append(m.Models, api.Model{First: number(words[0])})
		}},
		lookWord: {[]string{modelWord, lookWord}, 2, func(m *museum, words []string) {
			last := &m.Models[len(m.Models)-1]
			last.Looks = append(last.Looks, numbers(words[0]))
			last.Numbers = append(last.Numbers, span(words[1]))
		}},
		oldWord: {[]string{worksWord, modelWord, lookWord}, 3, func(m *museum, words []string) {
			m.old = api.Old{Seen: numbers(words[0]), Plate: plate(words[1]), Changed: number(words[2])}
		}},
		museumWord: {[]string{oldWord}, 0, func(*museum, []string) {}},
	}
}

// number returns the number that is written so. A number is written in one way alone, so that what is read has to be what would be written.
func number(word string) int {
	n, err := strconv.Atoi(word)
	demand(err == nil && strconv.Itoa(n) == word && n >= 0 && n <= maxNumber)
	return n
}

// numbers returns the numbers that are written so, of which there is at least one.
func numbers(word string) []int {
	var list []int
	for _, n := range strings.Split(word, ".") {
		list = append(list, number(n))
	}
	return list
}

// span returns the range that is written so; its ends may be in the wrong order.
func span(word string) api.Range {
	least, most, cut := strings.Cut(word, "=")
	demand(cut)
	return api.Range{Min: number(least), Max: number(most)}
}

// plate returns the plate that is written so.
func plate(word string) string {
	demand(word != "")
	if word == noPlate {
		return ""
	}
	return word
}
