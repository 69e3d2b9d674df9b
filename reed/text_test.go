package reed_test

import (
	"slices"
	"strings"
	"testing"

	"musette/api"
	"musette/reed"
)

// The lines of a text that is as it has to be.
const (
	tongueLine = "tongue -12:-8 30:32 40:41\n"
	fileLine   = "file 3:4 2:3 1:2 1:1 20\n"
	shiftLine  = "shift -2:1\n"
	passLine   = "pass 5 1\n"
)

// equal tells whether two jobs are the same.
func equal(a, b api.Job) bool {
	return a.Tongue == b.Tongue && a.File == b.File && slices.Equal(a.Shifts, b.Shifts) && a.Within == b.Within && a.Meter == b.Meter
}

// P1.7: texts of jobs, with as many shifts as there can be, and with the longest numbers.
func TestWriteAndRead(t *testing.T) {
	longest := api.Job{
		Tongue: api.Tongue{Pitch: to(-60, -60), Tip: to(100, 100), Root: to(100, 100)},
		File:   api.File{Up: to(12, 12), Down: to(11, 12), TipWear: to(10, 12), RootWear: to(9, 12), Least: 100},
		Shifts: slices.Repeat([]api.Range{to(-60, 60)}, 4),
		Within: 60,
		Meter:  6,
	}
	for i, c := range []struct {
		j    api.Job
		want string
	}{
		{jobJ(), tongueLine + fileLine + shiftLine + "shift 0:3\n" + passLine},
		{but(func(j *api.Job) { j.Shifts = nil }), tongueLine + fileLine + passLine},
		{but(func(j *api.Job) { j.Shifts = []api.Range{} }), tongueLine + fileLine + passLine},
		{api.Job{}, "tongue 0:0 0:0 0:0\nfile 0:0 0:0 0:0 0:0 0\npass 0 0\n"},
		{longest, "tongue -60:-60 100:100 100:100\nfile 12:12 11:12 10:12 9:12 100\n" + strings.Repeat("shift -60:60\n", 4) + "pass 60 6\n"},
	} {
		if s, e := reed.Write(c.j); s != c.want || e != api.OK {
			t.Error(i, s, e)
		}
		if j, line, e := reed.Read(c.want); !equal(j, c.j) || line != 0 || e != api.OK {
			t.Error(i, j, line, e)
		}
	}
}

// P1.7: each line has its form, and the first one that is not as said is named.
func TestReadLines(t *testing.T) {
	lines := []string{tongueLine, fileLine, shiftLine, passLine}
	for i, wrong := range [][]string{
		{"", "\n", "tongue\n", "tongue \n", "tongue -12:-8 30:32\n", "tongue -12:-8 30:32 40:41 \n", " tongue -12:-8 30:32 40:41\n", "tongue  -12:-8 30:32 40:41\n", "tongue -12:-8 30:32 40:41 1:1\n", "tongue -12:-8 30:32 40:41 1\n", "tongue -12 30:32 40:41\n", "tongue -12:-8 30:32 40\n", "tongues -12:-8 30:32 40:41\n", "TONGUE -12:-8 30:32 40:41\n", "tongue\t-12:-8 30:32 40:41\n", "tongue -12:-8 30:32 40:41\r\n", "tongue -12:-8,30:32,40:41\n"},
		{"", "\n", "file 3:4 2:3 1:2 1:1\n", "file 3:4 2:3 1:2 20\n", "file 3:4 2:3 1:2 1:1 20 20\n", "file 3:4 2:3 1:2 1:1 20:20\n", "file 20 3:4 2:3 1:2 1:1\n", "file 3:4 2:3 1:2 1 20\n", "file 3:4 2:3 1:2 1:1  20\n", "files 3:4 2:3 1:2 1:1 20\n"},
		{"\n", "shift\n", "shift \n", "shift -2\n", "shift -2:1 \n", "shift -2:1 0\n", "shift -2:1 0:3\n", "shift -2:1:1\n", "shift  -2:1\n", "shifts -2:1\n", "Shift -2:1\n"},
		{"", "\n", "pass\n", "pass 5\n", "pass 5 1 1\n", "pass 5:5 1\n", "pass 5 1:1\n", "pass 5  1\n", "pass 5 1 \n", "passes 5 1\n", "shift\n"},
	} {
		for _, line := range wrong {
			text := strings.Join(lines[:i], "") + line
			if line != "" {
				text += strings.Join(lines[i+1:], "")
			}
			if j, n, e := reed.Read(text); n != i+1 || e != api.ErrText || !equal(j, api.Job{}) {
				t.Errorf("%q %v %v %v", text, j, n, e)
			}
		}
	}
}

// P1.7: the lines come in this order, once each but for the shifts, and nothing comes after the last one.
func TestReadOrder(t *testing.T) {
	for i, c := range []struct {
		text string
		line int
	}{
		{fileLine + tongueLine + passLine, 1},
		{tongueLine + passLine, 2},
		{tongueLine + tongueLine + fileLine + passLine, 2},
		{tongueLine + shiftLine + fileLine + passLine, 2},
		{shiftLine + tongueLine + fileLine + passLine, 1},
		{tongueLine + fileLine + fileLine + passLine, 3},
		{tongueLine + fileLine + shiftLine, 4},
		{tongueLine + fileLine + shiftLine + shiftLine, 5},
		{tongueLine + fileLine + shiftLine + tongueLine, 4},
		{tongueLine + fileLine + passLine + shiftLine, 4},
		{tongueLine + fileLine + passLine + passLine, 4},
		{tongueLine + fileLine + passLine + "\n", 4},
		{tongueLine + fileLine + passLine + " ", 4},
		{tongueLine + fileLine + passLine + "pass 5 1", 4},
		{tongueLine + fileLine + shiftLine + passLine + tongueLine, 5},
		{"\n" + tongueLine + fileLine + passLine, 1},
		{tongueLine + "\n" + fileLine + passLine, 2},
		{strings.Repeat(tongueLine, 2) + strings.Repeat("x\n", 20), 2},
	} {
		if j, n, e := reed.Read(c.text); n != c.line || e != api.ErrText || !equal(j, api.Job{}) {
			t.Error(i, j, n, e)
		}
	}
}

// P1.7: each line is ended by a line feed.
func TestReadEnds(t *testing.T) {
	text, lines := "", []string{tongueLine, fileLine, shiftLine, shiftLine, passLine}
	for i, line := range lines {
		for cut := 1; cut < len(line); cut++ {
			if j, n, e := reed.Read(text + line[:cut]); n != i+1 || e != api.ErrText || !equal(j, api.Job{}) {
				t.Errorf("%q %v %v %v", text+line[:cut], j, n, e)
			}
		}
		if j, n, e := reed.Read(text); n != i+1 || e != api.ErrText || !equal(j, api.Job{}) {
			t.Errorf("%q %v %v %v", text, j, n, e)
		}
		text += line
	}
	if _, n, e := reed.Read(text); n != 0 || e != api.OK {
		t.Error(n, e)
	}
}

// P1.7: a number is written in one way alone, wherever it stands.
func TestReadNumbers(t *testing.T) {
	places := []string{"tongue #:0 0:0 0:0", "tongue 0:# 0:0 0:0", "tongue 0:0 #:0 0:0", "tongue 0:0 0:0 0:#", "file #:0 0:0 0:0 0:0 0", "file 0:0 0:0 0:0 0:# 0", "file 0:0 0:0 0:0 0:0 #", "shift #:0", "shift 0:#", "pass # 0", "pass 0 #"}
	heads := map[string]string{"tongue": "", "file": tongueLine, "shift": tongueLine + fileLine, "pass": tongueLine + fileLine}
	tails := map[string]string{"tongue": fileLine + passLine, "file": passLine, "shift": passLine, "pass": ""}
	for _, place := range places {
		word, _, _ := strings.Cut(place, " ")
		line := 1 + strings.Count(heads[word], "\n")
		for _, number := range []string{"", "-", "-0", "00", "01", "-01", "000", "+1", "1.", "1e1", "0x1", "1_0", "١", "--1", "1-", "- 1", "1000", "-1000", "0001", "99999999999999999999", "a", "#"} {
			text := heads[word] + strings.Replace(place, "#", number, 1) + "\n" + tails[word]
			if j, n, e := reed.Read(text); n != line || e != api.ErrText || !equal(j, api.Job{}) {
				t.Errorf("%q %v %v %v", text, j, n, e)
			}
		}
		for _, number := range []string{"999", "-999", "101", "-101"} {
			text := heads[word] + strings.Replace(place, "#", number, 1) + "\n" + tails[word]
			if j, n, e := reed.Read(text); n != 0 || e != api.ErrValue || !equal(j, api.Job{}) {
				t.Errorf("%q %v %v %v", text, j, n, e)
			}
		}
	}
}

// P1.7: the text is looked at ahead of the job; the errors of a job have no line.
func TestReadErrorsOfJobs(t *testing.T) {
	for i, c := range []struct {
		text string
		line int
		want api.Errno
	}{
		{"tongue 1:0 0:0 0:0\n" + fileLine + passLine, 0, api.ErrOrder},
		{"tongue 1:0 0:0 0:0\n" + fileLine + passLine + "x", 4, api.ErrText},
		{"tongue 61:0 0:0 0:0\n" + fileLine + passLine, 0, api.ErrValue},
		{tongueLine + "file 3:4 2:3 1:2 1:1 101\n" + passLine, 0, api.ErrValue},
		{tongueLine + "file 3:2 2:3 1:2 1:1 101\n" + passLine, 0, api.ErrOrder},
		{tongueLine + fileLine + strings.Repeat(shiftLine, 4) + passLine, 0, api.OK},
		{tongueLine + fileLine + strings.Repeat(shiftLine, 5) + passLine, 0, api.ErrMany},
		{tongueLine + fileLine + "shift 1:0\n" + strings.Repeat(shiftLine, 4) + passLine, 0, api.ErrMany},
		{tongueLine + fileLine + "shift 1:0\nshift 61:0\n" + passLine, 0, api.ErrOrder},
		{tongueLine + fileLine + "shift 61:0\nshift 1:0\n" + passLine, 0, api.ErrValue},
		{tongueLine + fileLine + "pass -1 0\n", 0, api.ErrValue},
		{tongueLine + fileLine + "pass 0 7\n", 0, api.ErrValue},
	} {
		j, n, e := reed.Read(c.text)
		if n != c.line || e != c.want || e != api.OK && !equal(j, api.Job{}) {
			t.Error(i, j, n, e)
		}
	}
}

// P1.7: a text has at most 300 bytes, whatever it is.
func TestReadLong(t *testing.T) {
	shifts := func(short, long int) string {
		return tongueLine + fileLine + strings.Repeat("shift 0:0\n", short) + strings.Repeat("shift 0:10\n", long) + passLine
	}
	for i, c := range []struct {
		text   string
		length int
		line   int
		want   api.Errno
	}{
		{shifts(23, 1), 300, 0, api.ErrMany},
		{shifts(22, 2), 301, 0, api.ErrLong},
		{shifts(24, 0) + "x", 300, 28, api.ErrText},
		{shifts(23, 1) + "x", 301, 0, api.ErrLong},
		{strings.Repeat("\n", 300), 300, 1, api.ErrText},
		{strings.Repeat("\n", 301), 301, 0, api.ErrLong},
		{strings.Repeat(" ", 1<<20), 1 << 20, 0, api.ErrLong},
	} {
		if j, n, e := reed.Read(c.text); len(c.text) != c.length || n != c.line || e != c.want || !equal(j, api.Job{}) {
			t.Error(i, len(c.text), j, n, e)
		}
	}
}

// P1.7, P1.16: a job is read from its text, and what is read is written as it was.
func TestTextsOfJobs(t *testing.T) {
	d := dice(7)
	const letters = "0123456789- :\nafilnopstu"
	read := 0
	for range 3000 {
		j := d.job(3)
		text, e := reed.Write(j)
		if e != api.OK {
			t.Fatal(j, e)
		}
		if back, n, x := reed.Read(text); !equal(back, j) || n != 0 || x != api.OK {
			t.Fatal(j, text, back, n, x)
		}
		for range 20 { // one letter is another one
			at, letter := d.roll(0, len(text)-1), d.roll(0, len(letters)-1)
			other := text[:at] + letters[letter:letter+1] + text[at+1:]
			back, n, x := reed.Read(other)
			if x == api.ErrText != (n > 0) || x != api.OK && !equal(back, api.Job{}) {
				t.Fatal(other, back, n, x)
			}
			if x == api.OK {
				read++
				if again, y := reed.Write(back); again != other || y != api.OK {
					t.Fatal(other, again, y)
				}
			}
		}
	}
	if read < 1000 {
		t.Error("too few texts were read", read)
	}
}
