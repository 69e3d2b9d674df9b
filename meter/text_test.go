package meter_test

import (
	"slices"
	"strings"
	"testing"

	"musette/api"
	"musette/meter"
)

// The lines of a text that is as it has to be.
const (
	slackLine  = "slack 1\n"
	toneLine   = "tone [44000,44010]\n"
	countLine  = "count 0 10 [4400,4401]\n"
	beatLine   = "beat 0 1 20 [2,3]\n"
	higherLine = "higher 1 0\n"
	heardLine  = "heard\n"
)

// P2.6: texts of ears, with as many lines as there can be, and with the longest numbers.
func TestWriteAndRead(t *testing.T) {
	long := to(100000, 100000)
	for i, c := range []struct {
		e    api.Ear
		want string
	}{
		{plain(to(1, 2)), "slack 0\ntone [1,2]\nheard\n"},
		{heard(plain(to(44000, 44010), to(44000, 44010)), count(0, 10, 4400, 4401), beat(0, 1, 20, 2, 3), higher(1, 0)), "slack 0\n" + toneLine + toneLine + countLine + beatLine + higherLine + heardLine},
		{heard(plain(to(7, 9), to(8, 8)), higher(1, 0), beat(1, 0, 1, 0, 25000), count(1, 20, 0, 0)), "slack 0\ntone [7,9]\ntone [8,8]\nhigher 1 0\nbeat 1 0 1 [0,25000]\ncount 1 20 [0,0]\nheard\n"},
		{earF(), "slack 0\ntone [44000,44010]\ntone [44005,44015]\ncount 0 10 [4400,4400]\nbeat 0 1 20 [2,2]\nhigher 0 1\nheard\n"},
		{api.Ear{Slack: 3, Tones: slices.Repeat([]api.Range{long}, 3), Readings: slices.Repeat([]api.Reading{beat(2, 1, 20, 25000, 25000)}, 6)}, "slack 3\n" + strings.Repeat("tone [100000,100000]\n", 3) + strings.Repeat("beat 2 1 20 [25000,25000]\n", 6) + heardLine},
	} {
		if s, x := meter.Write(c.e); s != c.want || x != api.OK {
			t.Error(i, s, x)
		}
		if e, line, x := meter.Read(c.want); !equal(e, c.e) || line != 0 || x != api.OK {
			t.Error(i, e, line, x)
		}
	}
}

// wrong tells whether a text has its first wrong line there.
func wrong(t *testing.T, text string, line int) {
	t.Helper()
	if e, n, x := meter.Read(text); n != line || x != api.ErrText || !isZero(e) {
		t.Errorf("%q %v %v %v", text, e, n, x)
	}
}

// P2.6: each line has its form, and the first one that is not as said is named.
func TestReadLines(t *testing.T) {
	lines := []string{slackLine, toneLine, toneLine, countLine, beatLine, higherLine, heardLine}
	of := func(line string, words ...string) []string {
		var all []string
		for _, word := range words {
			all = append(all, strings.Replace(line, "#", word, 1)+"\n")
		}
		return all
	}
	both := []string{"\n", "\r\n", "heard \n", " heard\n", "hear\n", "heard 0\n", "heard\r\n", "Heard\n", "slack 1\n", "tuned\n", "tone\n", "tone \n", "count\n", "beat\n", "higher\n", "count [1,2]\n", "lower 0 1\n"}
	for i, others := range [][]string{
		of("slack#", "", " ", " 1 ", "  1", " 1 1", " [1,1]", "1", "s 1", ":1", "\t1"),
		of("tone #", "", "1", "1,2", "[1]", "[]", "[,]", "[1,]", "[,1]", "[1,2", "1,2]", "[1,2,3]", "[1 2]", "[1, 2]", "[1,2] ", " [1,2]", "[1,2] [3,4]", "0 [1,2]", "[1,2] 0", "[[1,2]]", "(1,2)", "[1:2]", "[1,2]\r"),
		of("tones #", "[1,2]"),
		of("count #", "0 10", "0 [1,2]", "0 1 10 [1,2]", "0 10 1,2", "0 10 [1,2] ", "0  10 [1,2]", "[1,2] 0 10", "0 [1,2] 10", "0 10 1", "0 10 1 2", "10 [1,2] [1,2]"),
		of("beat #", "0 1 20", "0 20 [1,2]", "0 1 2 20 [1,2]", "0 1 20 [1,2] 5", "0 1  20 [1,2]", "[0,1] 20 [1,2]", "0 1 20 1 2"),
		of("higher #", "0", "0 1 2", "[0,1]", "0 1 [0,0]", "0 [0,0]", "0 1 ", " 0 1", "0,1", "0 1 20"),
		of("heard#", " ", "0", " 0", " [1,2]", "heard"),
	} {
		for _, line := range slices.Concat(others, both) {
			if i == 0 && line == slackLine {
				continue
			}
			wrong(t, strings.Join(lines[:i], "")+line+strings.Join(lines[i+1:], ""), i+1)
		}
	}
}

// P2.6: the slack comes first, then all tongues, then all readings, and nothing comes after the end.
func TestReadOrder(t *testing.T) {
	for _, c := range []struct {
		text string
		line int
	}{
		{"", 1},
		{heardLine, 1},
		{toneLine + slackLine + heardLine, 1},
		{countLine, 1},
		{"\n" + slackLine + toneLine + heardLine, 1},
		{slackLine + slackLine + toneLine + heardLine, 2},
		{slackLine + toneLine + slackLine + heardLine, 3},
		{slackLine + toneLine + higherLine + slackLine + heardLine, 4},
		{slackLine + toneLine + countLine + toneLine + heardLine, 4},
		{slackLine + toneLine + beatLine + toneLine + heardLine, 4},
		{slackLine + toneLine + higherLine + toneLine + heardLine, 4},
		{slackLine + countLine + toneLine + heardLine, 3},
		{slackLine + toneLine + heardLine + heardLine, 4},
		{slackLine + toneLine + heardLine + toneLine, 4},
		{slackLine + toneLine + heardLine + slackLine, 4},
		{slackLine + toneLine + heardLine + "\n", 4},
		{slackLine + toneLine + heardLine + " ", 4},
		{slackLine + toneLine + heardLine + "heard", 4},
		{slackLine + heardLine + countLine + heardLine, 3},
		{slackLine, 2},
		{slackLine + toneLine, 3},
		{slackLine + toneLine + countLine, 4},
		{slackLine + toneLine + "\n" + heardLine, 3},
		{slackLine + "x\n" + toneLine + "y\n", 2},
	} {
		wrong(t, c.text, c.line)
	}
	for i, text := range []string{
		slackLine + toneLine + toneLine + heardLine,
		slackLine + toneLine + toneLine + higherLine + countLine + beatLine + higherLine + heardLine,
		slackLine + toneLine + toneLine + beatLine + countLine + countLine + heardLine,
	} {
		if _, n, x := meter.Read(text); n != 0 || x != api.OK {
			t.Error(i, n, x)
		}
	}
}

// P2.6: each line is ended by a line feed.
func TestReadEnds(t *testing.T) {
	text := ""
	for i, line := range []string{slackLine, toneLine, toneLine, countLine, beatLine, higherLine, heardLine} {
		for cut := range len(line) {
			wrong(t, text+line[:cut], i+1)
		}
		text += line
	}
	if _, n, x := meter.Read(text); n != 0 || x != api.OK {
		t.Error(n, x)
	}
}

// P2.6: a number is written in one way alone, wherever it stands.
func TestReadNumbers(t *testing.T) {
	head := slackLine + toneLine + toneLine
	for _, place := range []struct {
		head, line string
	}{
		{"", "slack #\n"},
		{slackLine, "tone [#,5]\n"}, {slackLine, "tone [5,#]\n"},
		{head, "count # 10 [1,2]\n"}, {head, "count 0 # [1,2]\n"}, {head, "count 0 10 [#,2]\n"}, {head, "count 0 10 [1,#]\n"},
		{head, "beat # 1 20 [1,2]\n"}, {head, "beat 0 # 20 [1,2]\n"}, {head, "beat 0 1 # [1,2]\n"}, {head, "beat 0 1 20 [#,2]\n"}, {head, "beat 0 1 20 [1,#]\n"},
		{head, "higher # 0\n"}, {head, "higher 1 #\n"},
	} {
		line := 1 + strings.Count(place.head, "\n")
		for _, number := range []string{"", "-", "-0", "-1", "+1", "00", "01", "000", "1.", "1.0", "1e1", "0x1", "1_0", "١", "a", "#", "1000000", "0999999", "99999999999999999999"} {
			wrong(t, place.head+strings.Replace(place.line, "#", number, 1)+heardLine, line)
		}
		text := place.head + strings.Replace(place.line, "#", "999999", 1) + heardLine
		if e, n, x := meter.Read(text); n != 0 || x == api.OK || x == api.ErrText || !isZero(e) {
			t.Errorf("%q %v %v %v", text, e, n, x)
		}
	}
}

// P2.6: the text is looked at ahead of the ear; the errors of an ear have no line.
func TestReadErrorsOfEars(t *testing.T) {
	head := slackLine + toneLine + toneLine
	for i, c := range []struct {
		text string
		line int
		want api.Errno
	}{
		{slackLine + heardLine, 0, api.ErrFew},
		{"slack 4\n" + heardLine, 0, api.ErrValue},
		{"slack 4\n" + toneLine, 3, api.ErrText},
		{slackLine + strings.Repeat(toneLine, 3) + heardLine, 0, api.OK},
		{slackLine + strings.Repeat(toneLine, 4) + heardLine, 0, api.ErrMany},
		{slackLine + "tone [6,5]\n" + heardLine, 0, api.ErrOrder},
		{slackLine + "tone [6,5]\n" + heardLine + "x", 4, api.ErrText},
		{slackLine + "tone [0,5]\n" + heardLine, 0, api.ErrValue},
		{slackLine + "tone [1,22]\n" + heardLine, 0, api.ErrValue},
		{head + strings.Repeat(higherLine, 6) + heardLine, 0, api.OK},
		{head + strings.Repeat(higherLine, 7) + heardLine, 0, api.ErrMany},
		{head + "count 2 10 [1,2]\n" + heardLine, 0, api.ErrUnknown},
		{head + "count 0 21 [1,2]\n" + heardLine, 0, api.ErrValue},
		{head + "count 0 20 [2,1]\n" + heardLine, 0, api.ErrOrder},
		{head + "beat 0 0 20 [1,2]\n" + heardLine, 0, api.ErrTwice},
		{head + "beat 0 1 0 [1,2]\n" + heardLine, 0, api.ErrValue},
		{head + "higher 0 2\n" + heardLine, 0, api.ErrUnknown},
		{head + "higher 1 1\n" + heardLine, 0, api.ErrTwice},
	} {
		e, n, x := meter.Read(c.text)
		if n != c.line || x != c.want || x != api.OK && !isZero(e) {
			t.Error(i, e, n, x)
		}
	}
}

// P2.6: a text has at most 400 bytes, whatever it is.
func TestReadLong(t *testing.T) {
	fits := slackLine + toneLine + toneLine + strings.Repeat(higherLine, 31) + heardLine // 8 + 38 + 341 + 6
	for i, c := range []struct {
		text   string
		length int
		line   int
		want   api.Errno
	}{
		{fits, 393, 0, api.ErrMany},
		{fits + "heard\nx", 400, 36, api.ErrText},
		{fits + "heard\nxx", 401, 0, api.ErrLong},
		{strings.Repeat("\n", 400), 400, 1, api.ErrText},
		{strings.Repeat("\n", 401), 401, 0, api.ErrLong},
		{strings.Repeat(" ", 1<<20), 1 << 20, 0, api.ErrLong},
	} {
		if e, n, x := meter.Read(c.text); len(c.text) != c.length || n != c.line || x != c.want || !isZero(e) {
			t.Error(i, len(c.text), e, n, x)
		}
	}
}

// P2.6, P2.17: an ear is read from its text, and what is read is written as it was.
func TestTextsOfEars(t *testing.T) {
	d := dice(29)
	const letters = "0123456789[], \nabcehnorstu"
	read := 0
	for range 3000 {
		e := d.ear(size{tongues: 3, width: 20, readings: 6})
		text, x := meter.Write(e)
		if x != api.OK {
			t.Fatal(e, x)
		}
		if back, n, x := meter.Read(text); !equal(back, e) || n != 0 || x != api.OK {
			t.Fatal(e, text, back, n, x)
		}
		for range 20 { // one letter is another one
			at, letter := d.roll(0, len(text)-1), d.roll(0, len(letters)-1)
			other := text[:at] + letters[letter:letter+1] + text[at+1:]
			back, n, x := meter.Read(other)
			if (x == api.ErrText) != (n > 0) || x != api.OK && !isZero(back) {
				t.Fatal(other, back, n, x)
			}
			if x == api.OK {
				read++
				if again, y := meter.Write(back); again != other || y != api.OK {
					t.Fatal(other, again, y)
				}
			}
		}
	}
	if read < 1000 {
		t.Error("too few texts were read", read)
	}
}
