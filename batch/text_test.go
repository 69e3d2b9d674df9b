package batch_test

import (
	"slices"
	"strings"
	"testing"

	"musette/api"
	"musette/batch"
)

// The lines of a text that is as it has to be.
const (
	journalLine = "journal|3|fa\n"
	inLine      = "in|1|2|3\n"
	outLine     = "out|1|2|0|1\n"
	lostLine    = "out|0|?|0|5\n"
	countLine   = "count|1|0|2\n"
	endLine     = "end\n"
)

// textLines returns the lines of a text.
func textLines() []string {
	return []string{journalLine, inLine, outLine, lostLine, countLine, endLine}
}

// P9.7: texts of journals, of the least one, and of the largest one.
func TestWriteAndRead(t *testing.T) {
	for i, c := range []struct {
		j    api.Journal
		want string
	}{
		{of(1, "a"), "journal|1|a\nend\n"},
		{of(4, "ff"), "journal|4|ff\nend\n"},
		{journalK(), "journal|3|fa\nin|0|2|3\nin|0|2|2\nout|0|0|1|1\nout|0|1|2|2\nout|0|2|1|1\ncount|0|1|1\nend\n"},
		{journalL(), "journal|3|fa\nin|1|2|2\nin|1|1|1\nout|1|0|1|1\nout|1|?|1|1\nend\n"},
		{of(3, "fa", in(1, 2, 3), out(1, 2, 0, 1), out(0, lost, 0, 5), count(1, 0, 2)), strings.Join(textLines(), "")},
		{of(4, "aa", slices.Repeat([]api.Move{count(1, 5, 5)}, 10)...), "journal|4|aa\n" + strings.Repeat("count|1|5|5\n", 10) + "end\n"},
	} {
		if text, e := batch.Write(c.j); text != c.want || e != api.OK {
			t.Errorf("%d %q %v", i, text, e)
		}
		if j, line, e := batch.Read(c.want); !equal(j, c.j) || line != 0 || e != api.OK {
			t.Error(i, j, line, e)
		}
	}
}

// wrong tells whether a text has its first wrong line there.
func wrong(t *testing.T, text string, line int) {
	t.Helper()
	if j, n, e := batch.Read(text); n != line || e != api.ErrText || !isZero(j) {
		t.Errorf("%q %v %v %v", text, j, n, e)
	}
}

// right tells whether a text has an error that belongs to no line, or none.
func right(t *testing.T, text string, want api.Errno) {
	t.Helper()
	if j, n, e := batch.Read(text); n != 0 || e != want || e != api.OK && !isZero(j) {
		t.Errorf("%q %v %v %v", text, j, n, e)
	}
}

// P9.7: each line has its form, and the first one that is not as said is named.
func TestReadLines(t *testing.T) {
	lines := textLines()
	for i, line := range lines {
		body := strings.TrimSuffix(line, "\n")
		head, tail := strings.Join(lines[:i], ""), strings.Join(lines[i+1:], "")
		others := []string{"", " ", "|", "x", "x|1", " " + body, "|" + body, body + " ", body + "|", body + "|0", body + "||0", body + "|?", body + "|f", body + "x", body + "?", body + "\r", body + "\t", body + "\x00", body + "\xff", body + body, strings.ToUpper(body), strings.ToUpper(body[:1]) + body[1:], body[1:], body[:2] + body[3:], body + "|end"}
		if at := strings.Index(body, "|"); at > 0 {
			others = append(others, body[:at], body[:at+1], body[:at]+"s"+body[at:], body[:at]+"|"+body[at:], body[:at]+" "+body[at+1:], body[:at]+body[at+1:], body[:at]+","+body[at+1:], body[:at]+"|1"+body[at:], body[:at]+"|?"+body[at:], body[:at]+" "+body[at:], strings.ReplaceAll(body, "|", " "), body[:strings.LastIndex(body, "|")])
		}
		for _, other := range others {
			wrong(t, head+other+"\n"+tail, i+1)
		}
	}
	for _, other := range []string{"in", "in|", "in|1", "in|1|2", "in|1|2|", "in|1|2|3|4", "in|1||3", "in|?|2|3", "in|1|?|3", "in|1|2|?", "in|1|?|2|3", "in|f|2|3", "in|1|2-3", "in|1|2..3", "inn|1|2|3", "out", "out|1", "out|1|2|0", "out|1|?|0", "out|1||0|1", "out|1|??|0|1", "out|1|? |0|1", "out|1|?1|0|1", "out|1|-1|0|1", "out|1|-|0|1", "out|?|2|0|1", "out|1|2|?|1", "out|1|2|0|?", "out|1|2|0|1|1", "outs|1|2|0|1", "count", "count|1", "count|1|0", "count|1|0|2|3", "count|1|?|0|2", "count|?|0|2", "counts|1|0|2", "end|", "end|0", "en", "endd", "end end"} {
		wrong(t, journalLine+other+"\n"+endLine, 2)
		wrong(t, other+"\n"+endLine, 1)
		wrong(t, journalLine+inLine+other+"\n", 3)
	}
	for _, other := range []string{"journal", "journal|", "journal|3", "journal||fa", "journal|f|3", "journal|fa", "journal|fa|3", "journal|3|fa|", "journal|3|f|a", "journal|3|f a", "journal|3| fa", "journal|3|fx", "journal|3|F", "journal|3|fé", "journal|3|\xff", "journal|3|\x00", "journal|3|?", "journal|3|-", "journal|3|0", "journal|?|fa", "journals|3|fa", "journal 3 fa"} {
		wrong(t, other+"\n"+endLine, 1)
	}
}

// P9.7: the line "journal" is the first one, and only that; then come moves, then the end, once, and nothing after it.
func TestReadOrder(t *testing.T) {
	for _, c := range []struct {
		text string
		line int
	}{
		{"", 1},
		{"\n", 1},
		{"\x00", 1},
		{endLine, 1},
		{inLine, 1},
		{inLine + journalLine + endLine, 1},
		{endLine + journalLine, 1},
		{"\n" + journalLine + endLine, 1},
		{journalLine, 2},
		{journalLine + journalLine + endLine, 2},
		{journalLine + "\n" + endLine, 2},
		{journalLine + inLine, 3},
		{journalLine + inLine + journalLine + endLine, 3},
		{journalLine + outLine + countLine, 4},
		{journalLine + endLine + endLine, 3},
		{journalLine + endLine + inLine, 3},
		{journalLine + endLine + inLine + endLine, 3},
		{journalLine + endLine + journalLine, 3},
		{journalLine + endLine + "\n", 3},
		{journalLine + endLine + " ", 3},
		{journalLine + endLine + "e", 3},
		{journalLine + "x\n" + inLine + "y\n", 2},
		{journalLine + inLine + "\x00\n" + endLine, 3},
	} {
		wrong(t, c.text, c.line)
	}
	for _, text := range []string{journalLine + endLine, journalLine + lostLine + endLine, journalLine + countLine + outLine + inLine + inLine + lostLine + endLine} {
		right(t, text, api.OK)
	}
}

// P9.7: each line is ended by a line feed.
func TestReadEnds(t *testing.T) {
	text := ""
	for i, line := range textLines() {
		for cut := range len(line) {
			wrong(t, text+line[:cut], i+1)
		}
		text += line
	}
	right(t, text, api.OK)
}

// P9.7: a number is written in one way alone, wherever it stands, and has at most three digits and no sign.
func TestReadNumbers(t *testing.T) {
	lines := textLines()
	places := 0
	for i, line := range lines {
		parts := strings.Split(strings.TrimSuffix(line, "\n"), "|")
		head, tail := strings.Join(lines[:i], ""), strings.Join(lines[i+1:], "")
		for at, part := range parts {
			if at == 0 || part == "fa" || part == "?" {
				continue
			}
			places++
			with := func(number string) string {
				parts := slices.Clone(parts)
				parts[at] = number
				return head + strings.Join(parts, "|") + "\n" + tail
			}
			for _, number := range []string{"", "-", "--1", "-0", "-1", "+0", "+1", "00", "01", "001", "1.", "1.0", "1e1", "0x1", "1_0", " 1", "1 ", "١", "a", "#", "1000", "-1000", "0999", "99999999999999999999"} {
				wrong(t, with(number), i+1)
			}
			want := api.ErrValue
			if at == 1 && i > 0 || at == 2 && len(parts) == 5 {
				want = api.ErrUnknown
			}
			right(t, with("999"), want)
		}
	}
	if places != 14 {
		t.Error(places)
	}
}

// P9.7: the text is looked at ahead of the journal, whose error has no line.
func TestReadErrorsOfJournals(t *testing.T) {
	for text, want := range map[string]api.Errno{
		"journal|0|f\n" + endLine:                             api.ErrValue,
		"journal|5|\n" + endLine:                              api.ErrValue,
		"journal|4|\n" + endLine:                              api.ErrFew,
		"journal|4|ffa\n" + endLine:                           api.ErrMany,
		"journal|4|" + strings.Repeat("a", 200) + "\nend\n":   api.ErrMany,
		journalLine + strings.Repeat(countLine, 10) + endLine: api.OK,
		journalLine + strings.Repeat(countLine, 11) + endLine: api.ErrMany,
		journalLine + "in|2|9|8\n" + endLine:                  api.ErrUnknown,
		journalLine + "in|1|9|8\n" + endLine:                  api.ErrValue,
		journalLine + "in|1|5|4\n" + endLine:                  api.ErrOrder,
		journalLine + "in|1|0|6\n" + endLine:                  api.ErrValue,
		journalLine + "out|2|3|9|9\n" + endLine:               api.ErrUnknown,
		journalLine + "out|0|3|0|0\n" + endLine:               api.ErrUnknown,
		journalLine + "out|0|?|0|6\n" + endLine:               api.ErrValue,
		journalLine + "count|2|0|0\n" + endLine:               api.ErrUnknown,
		journalLine + "count|0|2|1\n" + endLine:               api.ErrOrder,
		journalLine + "count|0|5|5\n" + endLine:               api.OK, // it does not stand
		journalLine + strings.Repeat(inLine, 4) + endLine:     api.OK,
		journalLine + strings.Repeat(inLine, 5) + endLine:     api.ErrMany,
	} {
		right(t, text, want)
	}
	wrong(t, "journal|0|\nin|9|9|8\n", 3)
	wrong(t, journalLine+"in|9|9|8\nin|9|9\n", 3)
	wrong(t, journalLine+"in|9|9|8\n"+endLine+"x", 4)
}

// P9.7: a text has at most 300 bytes, whatever it is.
func TestReadLong(t *testing.T) {
	fits := journalLine + strings.Repeat(countLine, 23) + endLine // 13, 276 and 4
	for i, c := range []struct {
		text   string
		length int
		line   int
		want   api.Errno
	}{
		{fits, 293, 0, api.ErrMany},
		{fits + strings.Repeat("x", 7), 300, 26, api.ErrText},
		{fits + strings.Repeat("x", 8), 301, 0, api.ErrLong},
		{journalLine + strings.Repeat(countLine, 22) + "count|100|100|9999\n" + endLine, 300, 24, api.ErrText},
		{journalLine + strings.Repeat(countLine, 22) + "count|1000|100|999\n" + endLine, 300, 24, api.ErrText},
		{journalLine + strings.Repeat(countLine, 22) + "out|0|100|100|999\n" + endLine, 299, 0, api.ErrMany},
		{journalLine + strings.Repeat(countLine, 22) + "out|00|100|100|999\n" + endLine, 300, 24, api.ErrText},
		{journalLine + strings.Repeat(countLine, 22) + "out|10|100|100|999\n" + endLine, 300, 0, api.ErrMany},
		{journalLine + strings.Repeat(countLine, 22) + "out|100|100|100|999\n" + endLine, 301, 0, api.ErrLong},
		{strings.Repeat("\n", 300), 300, 1, api.ErrText},
		{strings.Repeat("\n", 301), 301, 0, api.ErrLong},
		{strings.Repeat("|", 1<<20), 1 << 20, 0, api.ErrLong},
	} {
		if j, n, e := batch.Read(c.text); len(c.text) != c.length || n != c.line || e != c.want || !isZero(j) {
			t.Error(i, len(c.text), j, n, e)
		}
	}
}

// P9.7, P9.18: what is written is read as it was, and what is read is written as it was.
func TestTextsStay(t *testing.T) {
	d := dice(24)
	const letters = "0123456789|?\njournaliftcued "
	read := 0
	for range 3000 {
		j := d.journal(d.roll(0, 10), d.roll(0, 5), d.roll(0, 3))
		text, e := batch.Write(j)
		if e != api.OK || len(text) > api.MaxJournal {
			t.Fatal(j, text, e)
		}
		if back, n, e := batch.Read(text); !equal(back, j) || n != 0 || e != api.OK {
			t.Fatal(j, text, back, n, e)
		}
		for range 20 { // one letter is another one
			at, letter := d.roll(0, len(text)-1), d.roll(0, len(letters)-1)
			other := text[:at] + letters[letter:letter+1] + text[at+1:]
			back, n, e := batch.Read(other)
			if (n > 0) != (e == api.ErrText) || e != api.OK && !isZero(back) {
				t.Fatal(other, back, n, e)
			}
			if e == api.OK {
				read++
				if again, e := batch.Write(back); again != other || e != api.OK {
					t.Fatal(other, again, e)
				}
			}
		}
	}
	if read < 1000 {
		t.Error("too few texts were read", read)
	}
}
