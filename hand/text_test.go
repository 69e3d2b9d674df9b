package hand_test

import (
	"slices"
	"strings"
	"testing"

	"musette/api"
	"musette/hand"
)

// The lines of a text that is as it has to be.
const (
	hands  = "hands 2 -1..4 3\n"
	set    = "set 1 20\n"
	entry  = "tuned 7 -1 500\n"
	slack  = "slack 1\n"
	tone   = "tone [495,505]\n"
	reads  = "count 0 20 [99,101]\n"
	heard  = "heard\n"
	closed = "closed\n"
)

// ear is an ear as it has to be, whole a whole entry.
const (
	ear   = slack + tone + reads + heard
	whole = entry + ear
)

// textLines returns the lines of a text; textRoster returns what it says.
func textLines() []string {
	return []string{hands, set, set, entry, slack, tone, reads, reads, heard, entry, slack, tone, heard, closed}
}

func textRoster() api.Roster {
	x := api.Tuned{Day: 7, Hand: nobody, Due: 500, Ear: plain(495, 505)}
	x.Ear.Slack = 1
	y := x
	x.Ear.Readings = []api.Reading{count(20, 99, 101), count(20, 99, 101)}
	return setRight(of(2, 3, to(-1, 4), x, y), api.Setting{Hand: 1, Day: 20}, api.Setting{Hand: 1, Day: 20})
}

// largest returns a roster as large as one can be.
func largest() api.Roster {
	r := setRight(of(4, 9, to(-5, 5)), slices.Repeat([]api.Setting{{Hand: 3, Day: 60}}, api.MaxSets)...)
	for range api.MaxEntries {
		r.Entries = append(r.Entries, tuned(60, 3, api.MaxTone, 99980, api.MaxTone))
	}
	return r
}

// P11.6: texts of rosters, of the least ones, and of large ones.
func TestWriteAndRead(t *testing.T) {
	for i, c := range []struct {
		r    api.Roster
		want string
	}{
		{of(1, 0, to(0, 0)), "hands 1 0..0 0\nclosed\n"},
		{setRight(of(4, 9, to(-5, -5)), api.Setting{}), "hands 4 -5..-5 9\nset 0 0\nclosed\n"},
		{of(1, 0, to(-5, 5), tuned(0, 0, 1, 1, 1)), "hands 1 -5..5 0\ntuned 0 0 1\nslack 0\ntone [1,1]\nheard\nclosed\n"},
		{rosterV(), "hands 2 -2..2 3\ntuned 5 -1 44000\nslack 0\ntone [44008,44012]\nheard\nclosed\n"},
		{rosterX(), "hands 2 -2..2 3\nset 0 3\ntuned 5 0 44000\nslack 0\ntone [44008,44012]\nheard\ntuned 4 -1 44000\nslack 0\ntone [43996,43997]\nheard\ntuned 4 -1 44000\nslack 0\ntone [44003,44003]\nheard\nclosed\n"}, // it has no truth
		{textRoster(), strings.Join(textLines(), "")},
		{largest(), "hands 4 -5..5 9\n" + strings.Repeat("set 3 60\n", 4) + strings.Repeat("tuned 60 3 100000\nslack 0\ntone [99980,100000]\nheard\n", 5) + "closed\n"},
	} {
		if text, e := hand.Write(c.r); text != c.want || e != api.OK {
			t.Errorf("%d %q %v", i, text, e)
		}
		if back, line, e := hand.Read(c.want); !equal(back, c.r) || line != 0 || e != api.OK {
			t.Error(i, back, line, e)
		}
	}
}

// wrong tells whether a text has its first wrong line there.
func wrong(t *testing.T, text string, line int) {
	t.Helper()
	if r, n, e := hand.Read(text); n != line || e != api.ErrText || !isZero(r) {
		t.Errorf("%q %v %v %v, not %v", text, r, n, e, line)
	}
}

// right tells whether a text has an error that belongs to no line, or none.
func right(t *testing.T, text string, want api.Errno) {
	t.Helper()
	if r, n, e := hand.Read(text); n != 0 || e != want || e != api.OK && !isZero(r) {
		t.Errorf("%q %v %v %v, not %v", text, r, n, e, want)
	}
}

// P11.6: each line has its form, and the first one that is not as said is named.
func TestReadLines(t *testing.T) {
	lines := textLines()
	for i, line := range lines {
		body := strings.TrimSuffix(line, "\n")
		head, tail := strings.Join(lines[:i], ""), strings.Join(lines[i+1:], "")
		others := []string{"", " ", ".", "..", "x", "x 1", " " + body, body + " ", body + " 0", body + "  0", body + ".", body + "..1", body + ",1", body + "]", body + "x", body + "\r", body + "\t", body + "\x00", body + "\xff", body + " " + body, body + body, strings.ToUpper(body), strings.ToUpper(body[:1]) + body[1:], body[1:], body[:2] + body[3:], body + " closed", body + " heard"}
		if at := strings.Index(body, " "); at > 0 {
			others = append(others, body[:at], body[:at+1], body[:at]+"s"+body[at:], body[:at]+" "+body[at:], body[:at]+"\t"+body[at+1:], body[:at]+body[at+1:], body[:at]+" 1"+body[at:]+" 1", strings.ReplaceAll(body, " ", "  "), strings.ReplaceAll(body, " ", "."), body[:strings.LastIndex(body, " ")]+" -0")
		}
		for _, other := range others {
			wrong(t, head+other+"\n"+tail, i+1)
		}
	}
	for _, other := range []string{"hands", "hands ", "hands 2", "hands 2 -1..4", "hands 2 -1..4 ", "hands 2 -1..4 3 3", "hands  -1..4 3", "hands 2 3 -1..4", "hands -1..4 2 3", "hands 2 -1 4 3", "hands 2 -1 3", "hands 2 .. 3", "hands 2 -1.. 3", "hands 2 ..4 3", "hands 2 -1.4 3", "hands 2 -1...4 3", "hands 2 -1....4 3", "hands 2 -1..4..4 3", "hands 2 -1..+4 3", "hands 2 -1..--4 3", "hands 2 [-1,4] 3", "hands 2 -1:4 3", "hands 2..2 -1..4 3", "hand 2 -1..4 3", "handss 2 -1..4 3"} {
		wrong(t, other+"\n"+set+whole+closed, 1)
	}
	for _, other := range []string{"set", "set ", "set 1", "set 1 ", "set  20", "set 1 20 20", "set 1..20", "set 1 20..20", "set 1, 20", "sets 1 20", "tuned", "tuned 7", "tuned 7 -1", "tuned 7 -1 ", "tuned 7 - 500", "tuned 7 -1 500 500", "tuned 7 -1 500..501", "tuned 7..7 -1 500", "tuned  -1 500", "tune 7 -1 500", "tuneds 7 -1 500", "closed ", "closed 0", "closeds", "close", "heard", "slack 0", ""} {
		wrong(t, hands+set+other+"\n"+ear+closed, 3)
	}
}

// P11.6: numbers are written in one way, with at most six digits without the sign.
func TestReadNumbers(t *testing.T) {
	places := []func(n string) string{
		func(n string) string { return "hands " + n + " 0..0 0\n" + closed },
		func(n string) string { return "hands 1 " + n + "..0 0\n" + closed },
		func(n string) string { return "hands 1 0.." + n + " 0\n" + closed },
		func(n string) string { return "hands 1 0..0 " + n + "\n" + closed },
		func(n string) string { return hands + "set " + n + " 0\n" + closed },
		func(n string) string { return hands + "set 0 " + n + "\n" + closed },
		func(n string) string { return hands + "tuned " + n + " 0 500\n" + ear + closed },
		func(n string) string { return hands + "tuned 0 " + n + " 500\n" + ear + closed },
		func(n string) string { return hands + "tuned 0 0 " + n + "\n" + ear + closed },
	}
	for i, place := range places {
		line := 1 + min(1, i/4)
		for _, n := range []string{"", "-", "--1", "+1", "-0", "+0", "00", "01", "-01", "000001", "1000000", "-1000000", "0999999", "9999999", "99999999999999999999", "1e3", "1_000", "0x1", "1.0", "a", "1a", "١", "１", "½", "\x00", "1\r", "1\t"} {
			wrong(t, place(n), line)
		}
		for _, n := range []string{"999999", "-999999", "-100000"} {
			want := api.ErrValue
			if i == 4 || i == 7 {
				want = api.ErrUnknown
			}
			right(t, place(n), want)
		}
	}
	right(t, "hands 1 0..-1 0\n"+closed, api.ErrOrder)
	right(t, "hands 1 -1..0 0\n"+closed, api.OK)
	right(t, hands+"tuned 7 -1 500\n"+ear+closed, api.OK)
	right(t, hands+"tuned 7 1 500\n"+ear+closed, api.OK)
	wrong(t, hands+entry+"slack 0\ntone [-1,5]\n"+heard+closed, 4) // meters have numbers without a sign
}

// P11.6: the line "hands" is the first one, and only that; no setting comes after an entry; nothing comes after the line "closed".
func TestReadOrder(t *testing.T) {
	for _, c := range []struct {
		text string
		line int
	}{
		{"", 1}, {"\n", 1}, {"\x00", 1}, {closed, 1}, {set, 1}, {whole, 1}, {ear, 1}, {heard, 1}, {set + hands + closed, 1},
		{"\n" + hands + closed, 1}, {whole + hands + closed, 1}, {hands, 2}, {hands + hands, 2}, {hands + hands + closed, 2}, {hands + "\n" + closed, 2},
		{hands + heard + closed, 2}, {hands + ear + closed, 2}, {hands + tone + closed, 2},
		{hands + set, 3}, {hands + set + hands + closed, 3}, {hands + set + ear + closed, 3}, {hands + set + "\n" + closed, 3},
		{hands + whole, 7}, {hands + whole + set + closed, 7}, {hands + set + whole + set + closed, 8}, {hands + whole + hands + closed, 7}, {hands + whole + "\n" + closed, 7}, {hands + whole + heard + closed, 7}, {hands + whole + ear + closed, 7}, {hands + whole + whole + set + closed, 12},
		{hands + closed + closed, 3}, {hands + closed + hands + closed, 3}, {hands + closed + "\n", 3}, {hands + closed + " ", 3}, {hands + closed + "c", 3}, {hands + closed + set, 3}, {hands + whole + closed + whole, 8}, {hands + closed + "\x00", 3},
		{hands + "x\n" + set + "y\n", 2}, {hands + set + "\xff\n" + closed, 3},
	} {
		wrong(t, c.text, c.line)
	}
	for _, text := range []string{hands + closed, hands + set + closed, hands + whole + closed, hands + set + set + set + set + whole + whole + whole + whole + whole + closed} {
		right(t, text, api.OK)
	}
}

// P11.6: behind a line "tuned" all lines up to the next line "heard" are read as an ear is, and a wrong one has its number in the whole text.
func TestReadEars(t *testing.T) {
	for _, c := range []struct {
		lines string
		line  int
	}{
		{heard, 1}, {ear + heard, 5}, {tone + heard, 1}, {entry + ear, 1}, {hands + ear, 1}, {set + ear, 1}, {"\n" + ear, 1},
		{slack + slack + heard, 2}, {slack + tone + slack + heard, 3}, {slack + reads + tone + heard, 3}, {slack + tone + whole, 3}, {slack + entry + ear, 2}, {slack + tone + closed + heard, 3}, {slack + tone + "\n" + heard, 3}, {slack + tone + reads + set + heard, 4},
		{slack + tone + "heard \n" + heard, 3}, {slack + tone + " heard\n" + heard, 3}, {slack + tone + "heard 0\n" + heard, 3}, {slack + tone + "unheard\n" + heard, 3}, {slack + tone + "heardheard\n" + heard, 3}, {slack + tone + "heard\r\n" + heard, 3}, {slack + tone + "Heard\n" + heard, 3},
		{"slack 01\n" + tone + heard, 1}, {slack + "tone 495,505\n" + heard, 2}, {slack + "tone [495..505]\n" + heard, 2}, {slack + tone + "count 0 20\n" + heard, 3},
	} {
		for i, head := range []string{hands, hands + set, hands + whole, hands + set + set + whole + whole} {
			wrong(t, head+entry+c.lines+closed, strings.Count(head, "\n")+1+c.line)
			if i == 0 {
				wrong(t, head+entry+c.lines+"x\ny", 2+c.line)
			}
		}
	}
	x := textRoster().Entries[0].Ear
	x.Readings = x.Readings[:1]
	if r, line, e := hand.Read(hands + whole + closed); e != api.OK || line != 0 || len(r.Entries) != 1 || !alike(r.Entries[0], api.Tuned{Day: 7, Hand: nobody, Due: 500, Ear: x}) {
		t.Error(r, line, e)
	}
}

// P11.6: if a line "heard" or the line "closed" is missing, the line after the last one is wrong, unless one ahead of it is; so is a last line that is not ended.
func TestReadEnds(t *testing.T) {
	text := strings.Join(textLines(), "")
	for end := range text {
		part := text[:end]
		wrong(t, part, strings.Count(part, "\n")+1)
	}
	for _, c := range []struct {
		text string
		line int
	}{
		{hands + entry, 3}, {hands + entry + slack, 4}, {hands + entry + slack + tone, 5}, {hands + entry + slack + tone + "heard", 5}, {hands + entry + slack + tone + "hear", 5}, {hands + whole + entry, 8}, {hands + whole + entry + slack + tone, 10},
		{hands + entry + slack + "tone\n" + tone, 4}, {hands + entry + slack + tone + closed, 5}, {hands + entry + closed, 3}, {hands + entry + slack + tone + "hears\n" + closed, 5},
		{hands + whole + "closed", 7}, {hands + whole + "close", 7}, {hands + whole + "x", 7},
	} {
		wrong(t, c.text, c.line)
	}
}

// P11.6: an error of the reader of ears that belongs to no line is returned ahead of all that comes later in the text, but behind all that comes earlier; errors of the roster come last.
func TestReadErrorsOfEars(t *testing.T) {
	long := slack + strings.Repeat("tone [5,6]\n", 40) + heard
	for i, c := range []struct {
		ear  string
		want api.Errno
	}{
		{slack + heard, api.ErrFew},
		{"slack 4\n" + tone + heard, api.ErrValue},
		{slack + "tone [6,5]\n" + heard, api.ErrOrder},
		{slack + strings.Repeat(tone, 4) + heard, api.ErrMany},
		{slack + tone + "higher 0 0\n" + heard, api.ErrTwice},
		{slack + tone + "beat 0 1 5 [1,1]\n" + heard, api.ErrUnknown},
		{slack + tone + strings.Repeat(reads, 7) + heard, api.ErrMany},
		{long, api.ErrLong},
		{slack + strings.Repeat("x", 400) + "\n" + heard, api.ErrLong},
		{strings.Repeat("\n", 395) + heard, api.ErrLong},
		{slack + "unheard\n" + strings.Repeat("x", 400) + "\n" + heard, api.ErrLong}, // only a whole line is the last one
	} {
		for _, tail := range []string{closed, "", "x\n", "closed", set + closed, whole + closed, entry, closed + "x", entry + slack + heard + closed} {
			right(t, hands+entry+c.ear+tail, c.want)
			right(t, hands+whole+"tuned 99 9 0\n"+c.ear+tail, c.want)
			right(t, "hands 9 6..-6 99\nset 9 99\n"+entry+c.ear+tail, c.want)
		}
		for j, head := range []string{"hands 2 -1..4\n", hands + "set\n", hands + "tuned 7 -1\n", hands + "x\n"} {
			if r, n, e := hand.Read(head + entry + c.ear + closed); e != api.ErrText || n != strings.Count(head, "\n") || !isZero(r) {
				t.Error(i, j, r, n, e)
			}
		}
	}
	wrong(t, hands+entry+strings.Repeat("\n", 394)+heard+closed, 3) // an ear of 400 bytes is not too long
}

// P11.6: the whole text is looked at ahead of the roster, whose errors have no line.
func TestReadErrorsOfRosters(t *testing.T) {
	const low = "count 0 1 [9,9]\n"
	for text, want := range map[string]api.Errno{
		"hands 0 0..0 0\n":                           api.ErrValue,
		"hands 5 0..0 0\n" + set:                     api.ErrValue,
		"hands 2 0..0 10\n" + set:                    api.ErrValue,
		"hands 2 0..0 -1\n" + set:                    api.ErrValue,
		"hands 2 -6..0 0\n" + set:                    api.ErrValue,
		"hands 2 0..6 0\n" + whole:                   api.ErrValue,
		"hands 2 1..0 0\n" + whole:                   api.ErrOrder,
		hands + strings.Repeat(set, 4):               api.OK,
		hands + strings.Repeat(set, 5):               api.ErrMany,
		hands + strings.Repeat("set 9 99\n", 5):      api.ErrMany,
		hands + "set 2 99\n":                         api.ErrUnknown,
		hands + "set -1 99\n":                        api.ErrUnknown,
		hands + "set 1 61\n" + whole:                 api.ErrValue,
		hands + "set 1 -1\n" + whole:                 api.ErrValue,
		hands + strings.Repeat(whole, 5):             api.OK,
		hands + strings.Repeat(whole, 6):             api.ErrMany,
		hands + "tuned 61 2 0\n" + ear:               api.ErrValue,
		hands + "tuned 60 2 0\n" + ear:               api.ErrUnknown,
		hands + "tuned 60 -2 0\n" + ear:              api.ErrUnknown,
		hands + "tuned 60 1 0\n" + ear:               api.ErrValue,
		hands + "tuned 60 1 100001\n" + ear:          api.ErrValue,
		hands + "tuned 60 1 100000\n" + ear:          api.OK,
		hands + entry + slack + tone + tone + heard:  api.ErrMany,
		hands + entry + slack + tone + low + heard:   api.ErrAgainst,
		hands + entry + slack + tone + reads + heard: api.OK,
		hands + whole + entry + slack + tone + tone + low + heard + "tuned 0 9 0\n" + ear: api.ErrMany,
	} {
		right(t, text+closed, want)
		wrong(t, text, strings.Count(text, "\n")+1)
		wrong(t, text+"x\n"+closed, strings.Count(text, "\n")+1)
		wrong(t, text+closed+"x", strings.Count(text, "\n")+2)
	}
}

// P11.6: a text has at most 900 bytes, whatever it is; a roster may need more when it is written.
func TestReadLong(t *testing.T) {
	fits := hands + strings.Repeat(set, 50) + strings.Repeat(whole, 6) + closed // 16, 450, 384 and 7
	for i, c := range []struct {
		text   string
		length int
		line   int
		want   api.Errno
	}{
		{fits, 857, 0, api.ErrMany},
		{fits + strings.Repeat("x", 43), 900, 83, api.ErrText},
		{fits + strings.Repeat("x", 44), 901, 0, api.ErrLong},
		{hands + strings.Repeat(set, 97) + "set 1 2\n" + closed, 904, 0, api.ErrLong},
		{hands + strings.Repeat(set, 96) + "set 1 20\n" + closed, 896, 0, api.ErrMany},
		{strings.Repeat("\n", 900), 900, 1, api.ErrText},
		{strings.Repeat("\n", 901), 901, 0, api.ErrLong},
		{strings.Repeat("x", 1<<20), 1 << 20, 0, api.ErrLong},
	} {
		if r, n, e := hand.Read(c.text); len(c.text) != c.length || n != c.line || e != c.want || !isZero(r) {
			t.Error(i, len(c.text), r, n, e)
		}
	}
	long := largest()
	for i := range long.Entries {
		long.Entries[i].Ear.Readings = slices.Repeat([]api.Reading{count(20, 20000, 20001)}, api.MaxReadings)
	}
	text := must[string](t)(hand.Write(long))
	if r, n, e := hand.Read(text); len(text) <= api.MaxRoster || n != 0 || e != api.ErrLong || !isZero(r) {
		t.Error(len(text), r, n, e)
	}
}
