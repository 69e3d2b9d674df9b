package wax

import (
	"strconv"
	"strings"

	"musette/api"
)

// maxNumber is the greatest number that has at most as many digits as a text may have.
const maxNumber = 999

// The words for what was seen of a joint.
const (
	failed = "failed"
	whole  = "whole"
)

// The parts of a text, in the order in which their lines come.
const (
	weekPart = iota
	jointPart
	reportPart
	endPart
)

// Write returns a season as a text.
func Write(s api.Season) (string, api.Errno) {
	if e := Check(s); e != api.OK {
		return "", e
	}
	text := ""
	for week, heat := range s.Heats {
		text += line("week", span(heat), span(s.Damps[week]))
	}
	for _, j := range s.Joints {
		text += line(materialOf(j.Kind).word(), span(j.High), span(j.Low), span(j.Weeks), span(j.Life))
	}
	for _, r := range s.Reports {
		state := whole
		if r.Failed {
			state = failed
		}
		text += line("seen", strconv.Itoa(r.Joint), strconv.Itoa(r.Week), state)
	}
	return text + line("spring"), api.OK
}

// line returns a line of words.
func line(words ...string) string { return strings.Join(words, " ") + "\n" }

// span returns a range as it is written.
func span(r api.Range) string { return strconv.Itoa(r.Min) + "/" + strconv.Itoa(r.Max) }

// Read returns the season of a text, or the error of the text and the number of the line in which it is.
func Read(text string) (s api.Season, line int, e api.Errno) {
	if len(text) > api.MaxSeason {
		return api.Season{}, 0, api.ErrLong
	}
	s, line = parse(text)
	if line > 0 {
		return s, line, api.ErrText
	}
	if e := Check(s); e != api.OK {
		return api.Season{}, 0, e
	}
	return s, 0, api.OK
}

// lost is what the reading of a text is left with in a line that is not as said.
type lost struct{}

// demand leaves the reading of a line unless something is so.
func demand(so bool) {
	if !so {
		panic(lost{})
	}
}

// parse returns the season that a text says, or no season and the number of the first line that is not as said.
func parse(text string) (s api.Season, line int) {
	defer func() {
		if _, ok := recover().(lost); ok {
			s = api.Season{}
		}
	}()
	part := weekPart
	for line = 1; part != endPart; line++ {
		content, rest, ended := strings.Cut(text, "\n")
		words := reader(strings.Split(content, " "))
		before := part
		part = words.take(&s)
		demand(ended && len(words) == 0 && part >= before)
		text = rest
	}
	demand(text == "")
	return s, 0
}

// reader is the words of a line that are still to be read.
type reader []string

// take reads a line into a season, and returns the part of a text to which it belongs.
func (r *reader) take(s *api.Season) int {
	switch word := r.next(); word {
	case "week":
		r.spans(added(&s.Heats), added(&s.Damps))
		return weekPart
	case "seen":
		r.report(added(&s.Reports))
		return reportPart
	case "spring":
		return endPart
	default:
		j := added(&s.Joints)
		j.Kind = kindOf(word)
		r.spans(&j.High, &j.Low, &j.Weeks, &j.Life)
		return jointPart
	}
}

// added returns where a new item of a list is.
func added[T any](list *[]T) *T {
	var item T
	*list = append(*list, item)
	return &(*list)[len(*list)-1]
}

// kindOf returns the kind of joints that is written so.
func kindOf(word string) int {
	for _, kind := range kinds() {
		if materialOf(kind).word() == word {
			return kind
		}
	}
	panic(lost{})
}

// next returns the next word.
func (r *reader) next() string {
	demand(len(*r) > 0)
	word := (*r)[0]
	*r = (*r)[1:]
	return word
}

// spans reads the next words as ranges; their ends may be in the wrong order.
func (r *reader) spans(list ...*api.Range) {
	for _, span := range list {
		from, to, found := strings.Cut(r.next(), "/")
		demand(found)
		*span = api.Range{Min: number(from), Max: number(to)}
	}
}

// report reads the next words as a report.
func (r *reader) report(seen *api.Seen) {
	seen.Joint = number(r.next())
	seen.Week = number(r.next())
	state := r.next()
	demand(state == whole || state == failed)
	seen.Failed = state == failed
}

// number returns the number that is written so. A number is written in one way alone, so that what is read has to be what would be written.
func number(word string) int {
	n, err := strconv.Atoi(word)
	demand(err == nil && strconv.Itoa(n) == word && -maxNumber <= n && n <= maxNumber)
	return n
}
