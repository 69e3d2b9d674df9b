package rod_test

import (
	"slices"
	"strings"
	"testing"

	"musette/api"
	"musette/rod"
)

// The lines of a text that is as it has to be.
const (
	machineLine = "M/2/1/1/9/2\n"
	buttonLine  = "B/1\n"
	pinLine     = "P/1/0/3\n"
	linkLine    = "L/1/0/-1/4\n"
	weightLine  = "W/7\n"
	endLine     = "E\n"
)

// textLines returns the lines of a text, those of the middle twice.
func textLines() []string {
	return []string{machineLine, buttonLine, buttonLine, pinLine, pinLine, linkLine, linkLine, weightLine, endLine}
}

// P3.8: texts of machines, of the least one, and of one with as many lines as there can be.
func TestWriteAndRead(t *testing.T) {
	const long = "M/6/6/2/12/2\nB/0\nB/1\nB/2\nB/5\n" +
		"P/0/0/10\nP/1/1/0\nP/2/2/3\nP/3/3/10\nP/4/4/5\nP/5/5/11\nP/4/0/1\nP/3/1/12\n" +
		"L/0/3/-1/1\nL/3/4/0/2\nL/4/5/1/3\nL/5/0/-1/12\nW/50\nW/0\nW/10\nW/20\nW/30\nW/40\nE\n"
	for i, c := range []struct {
		m    api.Machine
		want string
	}{
		{api.Machine{Rods: 1, Levers: 1, Travel: 1, Open: 1, Weights: []int{0}}, "M/1/1/0/1/1\nW/0\nE\n"},
		{machineM(), "M/3/4/1/6/2\nB/0\nB/1\nP/0/0/2\nP/0/1/4\nP/1/1/3\nP/2/2/1\nL/0/2/0/2\nL/1/2/-1/4\nW/1\nW/2\nW/3\nW/4\nE\n"},
		{largest(), long},
		{api.Machine{Rods: 2, Levers: 1, Registers: 1, Travel: 9, Open: 2, Buttons: []int{1, 1}, Pins: slices.Repeat([]api.Pin{{Rod: 1, Lag: 3}}, 2), Links: slices.Repeat([]api.Link{{From: 1, Register: -1, Lag: 4}}, 2), Weights: []int{7}}, strings.Join(textLines(), "")},
	} {
		if s, x := rod.Write(c.m); s != c.want || x != api.OK {
			t.Error(i, s, x)
		}
		if m, line, x := rod.Read(c.want); !equal(m, c.m) || line != 0 || x != api.OK {
			t.Error(i, m, line, x)
		}
	}
}

// wrong tells whether a text has its first wrong line there.
func wrong(t *testing.T, text string, line int) {
	t.Helper()
	if m, n, x := rod.Read(text); n != line || x != api.ErrText || !isZero(m) {
		t.Errorf("%q %v %v %v", text, m, n, x)
	}
}

// P3.8: each line has its form, and the first one that is not as said is named.
func TestReadLines(t *testing.T) {
	lines := textLines()
	for i, line := range lines {
		body := strings.TrimSuffix(line, "\n")
		others := []string{"", " ", "/", "X", "X/1", "m/1", " " + body, body + " ", body + "/", body + "/0", body + "/-1", "/" + body, body + "\r", body + body, strings.ToLower(body), strings.ReplaceAll(body, "/", " ") + " ", body[:1] + body, strings.Replace(body, "/", "//", 1) + "/", body + "//"}
		if at := strings.LastIndex(body, "/"); at > 0 {
			others = append(others, body[:at], body[:at+1], body[:1], body[:1]+"/", strings.Replace(body, "/", "//", 1), strings.Replace(body, "/", "", 1))
		}
		for _, other := range others {
			wrong(t, strings.Join(lines[:i], "")+other+"\n"+strings.Join(lines[i+1:], ""), i+1)
		}
	}
}

// P3.8: the lines come in their order, the first and the last kind once; nothing comes after the end.
func TestReadOrder(t *testing.T) {
	kinds := []string{machineLine, buttonLine, pinLine, linkLine, weightLine, endLine}
	for i, one := range kinds {
		for j, other := range kinds[:i+1] {
			text := strings.Join(kinds[:i+1], "")
			if i == j && 0 < i && i < 5 {
				continue
			}
			wrong(t, text+other+strings.Join(kinds[i:], ""), i+2)
			if i > 0 && j < i {
				wrong(t, machineLine+one+other+endLine, 3)
			}
		}
		if i > 0 {
			wrong(t, one+strings.Join(kinds, ""), 1)
		}
	}
	for _, c := range []struct {
		text string
		line int
	}{
		{"", 1},
		{endLine, 1},
		{"\n", 1},
		{machineLine, 2},
		{machineLine + weightLine, 3},
		{machineLine + buttonLine + pinLine + linkLine + weightLine, 6},
		{machineLine + weightLine + endLine + "\n", 4},
		{machineLine + weightLine + endLine + " ", 4},
		{machineLine + weightLine + endLine + "E", 4},
		{machineLine + weightLine + endLine + endLine, 4},
		{machineLine + weightLine + endLine + machineLine, 4},
		{machineLine + "\n" + weightLine + endLine, 2},
		{machineLine + "x\n" + weightLine + "y\n", 2},
		{machineLine + weightLine + "\x00" + endLine, 3},
	} {
		wrong(t, c.text, c.line)
	}
	for i, text := range []string{
		machineLine + weightLine + endLine,
		machineLine + linkLine + weightLine + endLine,
		machineLine + pinLine + weightLine + endLine,
		machineLine + buttonLine + linkLine + linkLine + weightLine + endLine,
	} {
		if _, n, x := rod.Read(text); n != 0 || x != api.OK {
			t.Error(i, n, x)
		}
	}
}

// P3.8: each line is ended by a line feed.
func TestReadEnds(t *testing.T) {
	text := ""
	for i, line := range textLines() {
		for cut := range len(line) {
			wrong(t, text+line[:cut], i+1)
		}
		text += line
	}
	if _, n, x := rod.Read(text); n != 0 || x != api.OK {
		t.Error(n, x)
	}
}

// P3.8: a number is written in one way alone, wherever it stands; none but a register has a sign, and that only as -1.
func TestReadNumbers(t *testing.T) {
	for _, place := range []struct {
		head, line string
		register   bool
	}{
		{"", "M/#/1/1/9/2\n", false}, {"", "M/2/#/1/9/2\n", false}, {"", "M/2/1/#/9/2\n", false}, {"", "M/2/1/1/#/2\n", false}, {"", "M/2/1/1/9/#\n", false},
		{machineLine, "B/#\n", false},
		{machineLine, "P/#/0/3\n", false}, {machineLine, "P/1/#/3\n", false}, {machineLine, "P/1/0/#\n", false},
		{machineLine, "L/#/0/-1/4\n", false}, {machineLine, "L/1/#/-1/4\n", false}, {machineLine, "L/1/0/#/4\n", true}, {machineLine, "L/1/0/-1/#\n", false},
		{machineLine, "W/#\n", false},
	} {
		line := 1 + strings.Count(place.head, "\n")
		for _, number := range []string{"", "-", "-0", "-1", "-2", "-01", "--1", "-10", "+0", "+1", "00", "01", "001", "1.", "1.0", "1e1", "0x1", "1_0", " 1", "1 ", "١", "a", "#", "1000", "0999", "99999999999999999999"} {
			if number == "-1" && place.register {
				continue
			}
			wrong(t, place.head+strings.Replace(place.line, "#", number, 1)+weightLine+endLine, line)
		}
		text := place.head + strings.Replace(place.line, "#", "999", 1) + weightLine + endLine
		if m, n, x := rod.Read(text); n != 0 || x == api.OK || !isZero(m) {
			t.Errorf("%q %v %v %v", text, m, n, x)
		}
	}
	m, n, x := rod.Read(machineLine + "L/1/0/0/4\n" + linkLine + weightLine + endLine)
	if n != 0 || x != api.OK || len(m.Links) != 2 || m.Links[0].Register != 0 || m.Links[1].Register != -1 {
		t.Error(m, n, x)
	}
}

// P3.8: the text is looked at ahead of the machine; the errors of a machine have no line.
func TestReadErrorsOfMachines(t *testing.T) {
	for i, c := range []struct {
		text string
		line int
		want api.Errno
	}{
		{"M/7/1/1/9/2\n" + weightLine + endLine, 0, api.ErrValue},
		{"M/7/1/1/9/2\n" + weightLine, 3, api.ErrText},
		{"M/2/1/1/9/10\n" + weightLine + endLine, 0, api.ErrValue},
		{machineLine + endLine, 0, api.ErrText},
		{machineLine + weightLine + weightLine + endLine, 0, api.ErrText},
		{machineLine + "W/51\n" + endLine, 0, api.ErrValue},
		{machineLine + "B/2\n" + weightLine + endLine, 0, api.ErrUnknown},
		{machineLine + strings.Repeat(buttonLine, 4) + weightLine + endLine, 0, api.OK},
		{machineLine + strings.Repeat(buttonLine, 5) + weightLine + endLine, 0, api.ErrMany},
		{machineLine + strings.Repeat(pinLine, 8) + weightLine + endLine, 0, api.OK},
		{machineLine + strings.Repeat(pinLine, 9) + weightLine + endLine, 0, api.ErrMany},
		{machineLine + strings.Repeat(linkLine, 4) + weightLine + endLine, 0, api.OK},
		{machineLine + strings.Repeat(linkLine, 5) + weightLine + endLine, 0, api.ErrMany},
		{machineLine + "P/2/0/1\n" + weightLine + endLine, 0, api.ErrUnknown},
		{machineLine + "P/0/0/10\n" + weightLine + endLine, 0, api.ErrValue},
		{machineLine + "L/1/1/0/1\n" + weightLine + endLine, 0, api.ErrTwice},
		{machineLine + "L/1/1/0/1\n" + weightLine + endLine + "x", 5, api.ErrText},
		{machineLine + "L/0/1/1/1\n" + weightLine + endLine, 0, api.ErrUnknown},
		{machineLine + "L/0/1/0/0\n" + weightLine + endLine, 0, api.ErrValue},
	} {
		m, n, x := rod.Read(c.text)
		if n != c.line || x != c.want || x != api.OK && !isZero(m) {
			t.Error(i, m, n, x)
		}
	}
}

// P3.8: a text has at most 400 bytes, whatever it is.
func TestReadLong(t *testing.T) {
	fits := machineLine + strings.Repeat(weightLine, 96) + endLine // 12 + 384 + 2
	for i, c := range []struct {
		text   string
		length int
		line   int
		want   api.Errno
	}{
		{fits, 398, 0, api.ErrText},
		{fits + "EE", 400, 99, api.ErrText},
		{fits + "EEE", 401, 0, api.ErrLong},
		{strings.Repeat("\n", 400), 400, 1, api.ErrText},
		{strings.Repeat("\n", 401), 401, 0, api.ErrLong},
		{strings.Repeat(" ", 1<<20), 1 << 20, 0, api.ErrLong},
	} {
		if m, n, x := rod.Read(c.text); len(c.text) != c.length || n != c.line || x != c.want || !isZero(m) {
			t.Error(i, len(c.text), m, n, x)
		}
	}
}

// P3.8, P3.19: a machine is read from its text, and what is read is written as it was.
func TestTextsOfMachines(t *testing.T) {
	d := dice(12)
	const letters = "0123456789/-\nMBPLWE"
	read := 0
	for range 3000 {
		m := d.machine()
		text, x := rod.Write(m)
		if x != api.OK || len(text) > api.MaxMachine {
			t.Fatal(m, text, x)
		}
		if back, n, x := rod.Read(text); !equal(back, m) || n != 0 || x != api.OK {
			t.Fatal(m, text, back, n, x)
		}
		for range 20 { // one letter is another one
			at, letter := d.roll(0, len(text)-1), d.roll(0, len(letters)-1)
			other := text[:at] + letters[letter:letter+1] + text[at+1:]
			back, n, x := rod.Read(other)
			if n > 0 && x != api.ErrText || x != api.OK && !isZero(back) {
				t.Fatal(other, back, n, x)
			}
			if x == api.OK {
				read++
				if again, y := rod.Write(back); again != other || y != api.OK {
					t.Fatal(other, again, y)
				}
			}
		}
	}
	if read < 1000 {
		t.Error("too few texts were read", read)
	}
}
