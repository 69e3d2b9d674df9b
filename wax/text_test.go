package wax_test

import (
	"slices"
	"strings"
	"testing"

	"musette/api"
	"musette/wax"
)

// The lines of a text that is as it has to be.
const (
	weekLine    = "week -2/0 3/4\n"
	waxLine     = "wax 9/9 0/1 1/2 3/4\n"
	leatherLine = "leather 8/9 -1/1 2/2 3/9\n"
	wholeLine   = "seen 0 0 whole\n"
	failedLine  = "seen 1 1 failed\n"
	springLine  = "spring\n"
)

// textLines returns the lines of a text, those of the middle twice.
func textLines() []string {
	return []string{weekLine, weekLine, waxLine, leatherLine, wholeLine, failedLine, springLine}
}

// largest returns a season with as many lines, as long ones, as there can be.
func largest() api.Season {
	joint := api.Joint{Kind: api.JointLeather, High: to(98, 100), Low: to(-50, -48), Weeks: to(1, 6), Life: to(0, 9)}
	cold := slices.Repeat([]api.Range{to(-50, -48)}, 6)
	return api.Season{Heats: cold, Damps: slices.Clone(cold), Joints: slices.Repeat([]api.Joint{joint}, 3), Reports: slices.Repeat([]api.Seen{seen(2, 5, true)}, 5)}
}

// P6.7: texts of seasons, of the least one, and of the largest one; joints of both kinds come in any order.
func TestWriteAndRead(t *testing.T) {
	for i, c := range []struct {
		s    api.Season
		want string
	}{
		{known(nil, 0), "week 0/0 0/0\nspring\n"},
		{seasonT(), "week 20/21 50/50\nweek 28/30 50/50\nweek 10/10 50/50\nwax 30/31 10/10 1/2 9/9\nleather 60/60 40/40 1/1 1/2\nseen 0 1 failed\nspring\n"},
		{known([]api.Joint{leathern(1, 0, 1, 2), waxen(3, -1, 4, 5), leathern(6, -2, 1, 0)}, -50, 100), "week -50/-50 0/0\nweek 100/100 0/0\nleather 1/1 0/0 1/1 2/2\nwax 3/3 -1/-1 4/4 5/5\nleather 6/6 -2/-2 1/1 0/0\nspring\n"},
		{largest(), strings.Repeat("week -50/-48 -50/-48\n", 6) + strings.Repeat("leather 98/100 -50/-48 1/6 0/9\n", 3) + strings.Repeat("seen 2 5 failed\n", 5) + "spring\n"},
		{api.Season{
			Heats: slices.Repeat([]api.Range{to(-2, 0)}, 2), Damps: slices.Repeat([]api.Range{to(3, 4)}, 2),
			Joints:  []api.Joint{{Kind: api.JointWax, High: to(9, 9), Low: to(0, 1), Weeks: to(1, 2), Life: to(3, 4)}, {Kind: api.JointLeather, High: to(8, 9), Low: to(-1, 1), Weeks: to(2, 2), Life: to(3, 9)}},
			Reports: []api.Seen{seen(0, 0, false), seen(1, 1, true)},
		}, strings.Join(textLines(), "")},
	} {
		if text, e := wax.Write(c.s); text != c.want || e != api.OK {
			t.Errorf("%d %q %v", i, text, e)
		}
		if s, line, e := wax.Read(c.want); !equal(s, c.s) || line != 0 || e != api.OK {
			t.Error(i, s, line, e)
		}
	}
}

// P6.7: a season without a truth is written and read as others are.
func TestTextsAgainst(t *testing.T) {
	text, e := wax.Write(told(seen(0, 0, true)))
	s, line, x := wax.Read(text)
	if !equal(s, told(seen(0, 0, true))) || !against(s) || line != 0 || e != api.OK || x != api.OK {
		t.Error(text, s, line, e, x)
	}
}

// wrong tells whether a text has its first wrong line there.
func wrong(t *testing.T, text string, line int) {
	t.Helper()
	if s, n, e := wax.Read(text); n != line || e != api.ErrText || !isZero(s) {
		t.Errorf("%q %v %v %v", text, s, n, e)
	}
}

// right tells whether a text has an error that belongs to no line, or none.
func right(t *testing.T, text string, want api.Errno) {
	t.Helper()
	if s, n, e := wax.Read(text); n != 0 || e != want || e != api.OK && !isZero(s) {
		t.Errorf("%q %v %v %v", text, s, n, e)
	}
}

// P6.7: each line has its form, and the first one that is not as said is named.
func TestReadLines(t *testing.T) {
	lines := textLines()
	for i, line := range lines {
		body := strings.TrimSuffix(line, "\n")
		others := []string{"", " ", "x", "x 1", " " + body, body + " ", body + " 0", body + " 0/0", body + "/", body + "/0", body + "\r", body + body, body + "\t", strings.ToUpper(body), strings.ToUpper(body[:1]) + body[1:], body[:2] + body[3:], body[1:], body + " whole", body + "\x00"}
		if at := strings.LastIndex(body, " "); at > 0 {
			head := body[:strings.Index(body, " ")]
			others = append(others, body[:at], body[:at+1], head, head+" ", head+"s"+body[len(head):], strings.Replace(body, " ", "  ", 1), strings.Replace(body, " ", "\t", 1), strings.Replace(body, " ", "", 1), strings.Replace(body, " ", ",", 1), body[:at]+"  "+body[at+1:], body[:at]+" 1", body[:at]+" 1/", body[:at]+" /1", body[:at]+" /", body[:at]+" 1/2/3", body[:at]+" 1//2", body[:at]+" 1-2", body[:at]+" 1 / 2", body[:at]+" Whole", body[:at]+" fail", body[:at]+" wholefailed", body[:at]+" whole failed", body[:at]+" true")
		}
		for _, other := range others {
			wrong(t, strings.Join(lines[:i], "")+other+"\n"+strings.Join(lines[i+1:], ""), i+1)
		}
		// Ranges where numbers have to be, or the other way round, and words where either has to be.
		words := strings.Split(body, " ")
		for at, word := range words[1:] {
			other := "1/1"
			if strings.Contains(word, "/") {
				other = "1"
			}
			for _, put := range []string{other, "", "whole0", "a"} {
				swapped := slices.Clone(words)
				swapped[at+1] = put
				wrong(t, strings.Join(lines[:i], "")+strings.Join(swapped, " ")+"\n"+strings.Join(lines[i+1:], ""), i+1)
			}
		}
	}
}

// P6.7: weeks, joints and reports come in this order, then the end, once; nothing comes after it.
func TestReadOrder(t *testing.T) {
	parts := [][]string{{weekLine}, {waxLine, leatherLine}, {wholeLine, failedLine}, {springLine}}
	for i, part := range parts {
		for _, line := range part {
			for _, before := range parts[:i] {
				for _, other := range before {
					wrong(t, weekLine+line+other+springLine, 3)
					wrong(t, weekLine+line+line+other+springLine, 3+min(1, 3-i))
				}
			}
		}
	}
	for _, c := range []struct {
		text string
		line int
	}{
		{"", 1},
		{"\n", 1},
		{"\x00", 1},
		{weekLine, 2},
		{waxLine, 2},
		{wholeLine, 2},
		{weekLine + leatherLine, 3},
		{weekLine + waxLine + wholeLine, 4},
		{waxLine + weekLine + springLine, 2},
		{springLine + springLine, 2},
		{weekLine + springLine + springLine, 3},
		{weekLine + springLine + "\n", 3},
		{weekLine + springLine + " ", 3},
		{weekLine + springLine + "s", 3},
		{weekLine + springLine + weekLine, 3},
		{weekLine + springLine + wholeLine + springLine, 3},
		{weekLine + "\n" + springLine, 2},
		{weekLine + "x\n" + waxLine + "y\n", 2},
		{weekLine + waxLine + "\x00\n" + springLine, 3},
		{weekLine + "horn 9/9 0/0 1/2 3/4\n" + springLine, 2},
		{weekLine + "spring 1\n", 2},
		{weekLine + "summer\n", 2},
		{"wee 1/2 3/4\n" + springLine, 1},
	} {
		wrong(t, c.text, c.line)
	}
	for _, text := range []string{weekLine + springLine, weekLine + weekLine + springLine, weekLine + waxLine + leatherLine + waxLine + springLine, weekLine + waxLine + wholeLine + wholeLine + springLine} {
		right(t, text, api.OK)
	}
}

// P6.7: each line is ended by a line feed.
func TestReadEnds(t *testing.T) {
	text := ""
	for i, line := range textLines() {
		for cut := range len(line) {
			wrong(t, text+line[:cut], i+1)
		}
		text += line
	}
	right(t, text, api.OK)
}

// P6.7: a number is written in one way alone, wherever it stands, and has at most three digits, and a sign only if it is below 0.
func TestReadNumbers(t *testing.T) {
	lines := textLines()
	for i, line := range lines {
		body := strings.TrimSuffix(line, "\n")
		head, tail := strings.Join(lines[:i], ""), strings.Join(lines[i+1:], "")
		// Each place at which a number stands: after a blank, or after a slash.
		for at := range body {
			if body[at] != ' ' && body[at] != '/' || 'a' <= body[at+1] && body[at+1] <= 'z' {
				continue
			}
			end := at + 1
			for end < len(body) && body[end] != ' ' && body[end] != '/' {
				end++
			}
			for _, number := range []string{"", "-", "--1", "-0", "+0", "+1", "00", "01", "-01", "001", "1.", "1.0", "1e1", "0x1", "1_0", " 1", "1 ", "- 1", "١", "a", "#", "1000", "-1000", "0999", "99999999999999999999", "-9223372036854775809"} {
				wrong(t, head+body[:at+1]+number+body[end:]+"\n"+tail, i+1)
			}
			for _, number := range []string{"999", "-999"} {
				text := head + body[:at+1] + number + body[end:] + "\n" + tail
				if s, n, e := wax.Read(text); n != 0 || e == api.OK || e == api.ErrText || !isZero(s) {
					t.Errorf("%q %v %v %v", text, s, n, e)
				}
			}
		}
	}
}

// P6.7: the text is looked at ahead of the season, whose error has no line.
func TestReadErrorsOfSeasons(t *testing.T) {
	for text, want := range map[string]api.Errno{
		springLine:                                                            api.ErrFew,
		waxLine + wholeLine + springLine:                                      api.ErrFew,
		strings.Repeat(weekLine, 6) + springLine:                              api.OK,
		strings.Repeat(weekLine, 7) + springLine:                              api.ErrMany,
		"week 1/0 3/4\n" + springLine:                                         api.ErrOrder,
		"week 1/4 3/4\n" + springLine:                                         api.ErrValue,
		"week 1/1 3/6\n" + springLine:                                         api.ErrValue,
		"week -51/-50 3/4\n" + springLine:                                     api.ErrValue,
		weekLine + "week 1/1 4/3\n" + springLine:                              api.ErrOrder,
		weekLine + strings.Repeat(waxLine, 3) + springLine:                    api.OK,
		weekLine + strings.Repeat(leatherLine, 4) + springLine:                api.ErrMany,
		weekLine + "wax 9/9 0/1 0/2 3/4\n" + springLine:                       api.ErrValue,
		weekLine + "wax 9/9 0/1 2/1 3/4\n" + springLine:                       api.ErrOrder,
		weekLine + "leather 9/9 0/1 1/1 4/3\n" + springLine:                   api.ErrOrder,
		weekLine + waxLine + strings.Repeat(wholeLine, 5) + springLine:        api.OK,
		weekLine + waxLine + strings.Repeat(wholeLine, 6) + springLine:        api.ErrMany,
		weekLine + waxLine + failedLine + springLine:                          api.ErrUnknown,
		weekLine + wholeLine + springLine:                                     api.ErrUnknown,
		weekLine + waxLine + "seen 0 1 whole\n" + springLine:                  api.ErrValue,
		weekLine + waxLine + "seen -1 0 whole\n" + springLine:                 api.ErrUnknown,
		"week 1/4 3/4\nwax 9/9 0/1 2/1 3/4\n" + failedLine + springLine:       api.ErrValue,
		weekLine + "wax 9/9 0/1 2/1 3/4\n" + failedLine + springLine:          api.ErrOrder,
		weekLine + waxLine + "seen 0 0 failed\nseen 0 0 whole\n" + springLine: api.OK,
	} {
		right(t, text, want)
	}
	wrong(t, "week 1/4 3/4\n"+waxLine, 3)
	wrong(t, "week 1/4 3/4\nwax 9/9\n", 2)
	wrong(t, springLine+"x", 2)
}

// P6.7: a text has at most 500 bytes, whatever it is.
func TestReadLong(t *testing.T) {
	fits := strings.Repeat(weekLine, 35) + springLine // 490 and 7
	for i, c := range []struct {
		text   string
		length int
		line   int
		want   api.Errno
	}{
		{fits, 497, 0, api.ErrMany},
		{fits + "xxx", 500, 37, api.ErrText},
		{fits + "xxxx", 501, 0, api.ErrLong},
		{strings.Repeat("\n", 500), 500, 1, api.ErrText},
		{strings.Repeat("\n", 501), 501, 0, api.ErrLong},
		{strings.Repeat(weekLine, 35) + "week 0/0 ", 499, 36, api.ErrText},
		{strings.Repeat(" ", 1<<20), 1 << 20, 0, api.ErrLong},
	} {
		if s, n, e := wax.Read(c.text); len(c.text) != c.length || n != c.line || e != c.want || !isZero(s) {
			t.Error(i, len(c.text), s, n, e)
		}
	}
}

// P6.7, P6.17: what is written is read as it was, and what is read is written as it was.
func TestTextsStay(t *testing.T) {
	d := dice(7)
	const letters = "0123456789-/ \nwekaxlthrsnfidopg"
	read := 0
	for range 3000 {
		s := d.season(1 << 30)
		text, e := wax.Write(s)
		if e != api.OK || len(text) > api.MaxSeason {
			t.Fatal(s, text, e)
		}
		if back, n, e := wax.Read(text); !equal(back, s) || n != 0 || e != api.OK {
			t.Fatal(s, text, back, n, e)
		}
		for range 20 { // one letter is another one
			at, letter := d.roll(0, len(text)-1), d.roll(0, len(letters)-1)
			other := text[:at] + letters[letter:letter+1] + text[at+1:]
			back, n, e := wax.Read(other)
			if (n > 0) != (e == api.ErrText) || e != api.OK && !isZero(back) {
				t.Fatal(other, back, n, e)
			}
			if e == api.OK {
				read++
				if again, e := wax.Write(back); again != other || e != api.OK {
					t.Fatal(other, again, e)
				}
			}
		}
	}
	if read < 1000 {
		t.Error("too few texts were read", read)
	}
}
