package rod

import (
	"strconv"
	"strings"

	"musette/api"
)

// maxNumber is the greatest number that has at most as many digits as a text of a machine may have.
const maxNumber = 999

// form is how a line of a text is written: its word, as many numbers, which of them is a register (from 1 on; 0: none of them), and what takes them into a machine.
type form struct {
	word              string
	numbers, register int
	take              func(m *api.Machine, n []int)
}

// Write returns a machine as a text.
func Write(m api.Machine) (string, api.Errno) {
	if x := Check(m); x != api.OK {
		return "", x
	}
	text := lineOf("M", m.Rods, m.Levers, m.Registers, m.Travel, m.Open)
	for _, rod := range m.Buttons {
		text += lineOf("B", rod)
	}
	for _, p := range m.Pins {
		text += lineOf("P", p.Rod, p.Lever, p.Lag)
	}
	for _, l := range m.Links {
		text += lineOf("L", l.From, l.To, l.Register, l.Lag)
	}
	for _, weight := range m.Weights {
		text += lineOf("W", weight)
	}
	return text + lineOf("E"), api.OK
}

// Read returns the machine of a text, or the error of the text and the number of the line in which it is.
func Read(text string) (m api.Machine, line int, e api.Errno) {
	if len(text) > api.MaxMachine {
		return api.Machine{}, 0, api.ErrLong
	}
	m, line = parse(text)
	if line > 0 {
		return api.Machine{}, line, api.ErrText
	}
	if x := Check(m); x != api.OK {
		return api.Machine{}, 0, x
	}
	return m, 0, api.OK
}

// lineOf returns a line of a text with these parts.
func lineOf(word string, numbers ...int) string {
	return strings.Join(append([]string{word}, each(numbers, strconv.Itoa)...), "/") + "\n"
}

// forms returns how the lines of a text are written, in the order in which they come. The first one and the last one come once, the others as often as they like.
func forms() []form {
	return []form{
		{"M", 5, 0, func(m *api.Machine, n []int) {
			m.Rods, m.Levers, m.Registers, m.Travel, m.Open = n[0], n[1], n[2], n[3], n[4]
		}},
		{"B", 1, 0, func(m *api.Machine, n []int) { m.Buttons = append(m.Buttons, n[0]) }},
		{"P", 3, 0, func(m *api.Machine, n []int) { m.Pins = append(m.Pins, api.Pin{Rod: n[0], Lever: n[1], Lag: n[2]}) }},
		{"L", 4, 3, func(m *api.Machine, n []int) {
			m.Links = append(m.Links, api.Link{From: n[0], To: n[1], Register: n[2], Lag: n[3]})
		}},
		{"W", 1, 0, func(m *api.Machine, n []int) { m.Weights = append(m.Weights, n[0]) }},
		{"E", 0, 0, func(*api.Machine, []int) {}},
	}
}

// parse returns the machine that a text says, or the number of the first line that is not as it has to be.
func parse(text string) (m api.Machine, line int) {
	forms := forms()
	last := len(forms) - 1
	line = 1
	for at := 0; at < last; line++ {
		content, rest, ended := strings.Cut(text, "\n")
		next, ok := takeLine(&m, forms, content)
		// What comes first comes in the first line, and nowhere else.
		if !ended || !ok || next < at || (next == 0) != (line == 1) {
			return m, line
		}
		at, text = next, rest
	}
	if text != "" {
		return m, line
	}
	return m, 0
}

// takeLine takes a line into a machine, and tells which form it has, and whether it is as it has to be.
func takeLine(m *api.Machine, forms []form, line string) (at int, ok bool) {
	parts := strings.Split(line, "/")
	for at, f := range forms {
		if f.word == parts[0] {
			return at, f.apply(m, parts[1:])
		}
	}
	return 0, false
}

// apply takes the parts that follow the word of a line into a machine, and tells whether they are as they have to be.
func (f form) apply(m *api.Machine, parts []string) bool {
	if len(parts) != f.numbers {
		return false
	}
	var numbers []int
	for place, part := range parts {
		least := 0
		if place+1 == f.register {
			least = always
		}
		n, ok := readNumber(part, least)
		if !ok {
			return false
		}
		numbers = append(numbers, n)
	}
	f.take(m, numbers)
	return true
}

// readNumber returns the number that is written so, if it is not below the least one. A number is written in one way alone, so that what is read has to be what would be written.
func readNumber(part string, least int) (int, bool) {
	n, err := strconv.Atoi(part)
	return n, err == nil && strconv.Itoa(n) == part && least <= n && n <= maxNumber
}
