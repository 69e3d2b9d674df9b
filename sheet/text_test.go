package sheet_test

import (
	"slices"
	"strings"
	"testing"

	"musette/api"
	"musette/sheet"
)

// The lines of a text that is as it has to be.
const (
	sheetLine = "sheet 6x12 0~1 2~2\n"
	anyLine   = "blank 3x2 any 1\n"
	grainLine = "blank 10x4 grain 0\n"
	sawnLine  = "sawn\n"
)

// textLines returns the lines of a text.
func textLines() []string { return []string{sheetLine, anyLine, grainLine, sawnLine} }

// largest returns a stock with as many lines, as long ones, as there can be.
func largest() api.Sheet {
	return api.Sheet{Long: 12, Wide: 12, Along: to(2, 2), Across: to(2, 2), Parts: slices.Repeat([]api.Part{{Long: 12, Wide: 12, Grain: true, Pattern: 3}}, 5)}
}

// P8.6: texts of stocks, of the least one, and of the largest one.
func TestWriteAndRead(t *testing.T) {
	for i, c := range []struct {
		s    api.Sheet
		want string
	}{
		{plain(1, 1), "sheet 1x1 0~0 0~0\nsawn\n"},
		{stockS(), "sheet 6x3 0~1 0~0\nblank 3x2 any 0\nblank 2x3 grain 0\nblank 4x1 any 0\nsawn\n"},
		{stockT(), "sheet 6x3 0~1 0~0\nblank 3x2 any 1\nblank 2x3 grain 0\nblank 4x1 any 1\nsawn\n"},
		{api.Sheet{Long: 6, Wide: 12, Along: to(0, 1), Across: to(2, 2), Parts: []api.Part{patterned(1, 3, 2), grain(10, 4)}}, strings.Join(textLines(), "")},
		{largest(), "sheet 12x12 2~2 2~2\n" + strings.Repeat("blank 12x12 grain 3\n", 5) + "sawn\n"},
	} {
		if text, e := sheet.Write(c.s); text != c.want || e != api.OK {
			t.Errorf("%d %q %v", i, text, e)
		}
		if s, line, e := sheet.Read(c.want); !equal(s, c.s) || line != 0 || e != api.OK {
			t.Error(i, s, line, e)
		}
	}
}

// wrong tells whether a text has its first wrong line there.
func wrong(t *testing.T, text string, line int) {
	t.Helper()
	if s, n, e := sheet.Read(text); n != line || e != api.ErrText || !isZero(s) {
		t.Errorf("%q %v %v %v", text, s, n, e)
	}
}

// right tells whether a text has an error that belongs to no line, or none.
func right(t *testing.T, text string, want api.Errno) {
	t.Helper()
	if s, n, e := sheet.Read(text); n != 0 || e != want || e != api.OK && !isZero(s) {
		t.Errorf("%q %v %v %v", text, s, n, e)
	}
}

// P8.6: each line has its form, and the first one that is not as said is named.
func TestReadLines(t *testing.T) {
	lines := textLines()
	for i, line := range lines {
		body := strings.TrimSuffix(line, "\n")
		head, tail := strings.Join(lines[:i], ""), strings.Join(lines[i+1:], "")
		others := []string{"", " ", "x", "x 1", " " + body, body + " ", body + " 0", body + "  0", body + " 0~1", body + " 1x1", body + "x", body + "~", body + "~1", body + "x1", body + "\r", body + "\t", body + "\x00", body + body, strings.ToUpper(body), strings.ToUpper(body[:1]) + body[1:], body[1:], body[:2] + body[3:], body + " sawn"}
		if at := strings.Index(body, " "); at > 0 {
			others = append(others, body[:at], body[:at+1], body[:at]+"s"+body[at:], body[:at]+" "+body[at:], body[:at]+"\t"+body[at+1:], body[:at]+body[at+1:], body[:at]+","+body[at+1:], body[:at]+" 1x1"+body[at:], body[:at]+" 1"+body[at:], body[:at]+" a"+body[at:])
		}
		for _, other := range others {
			wrong(t, head+other+"\n"+tail, i+1)
		}
	}
	for _, other := range []string{"blank", "blank ", "blank 3", "blank 3x", "blank x2 any 1", "blank 3x2", "blank 3x2 any", "blank 3x2 any ", "blank 3x2  any 1", "blank 3x2 1", "blank 3x2 1 any", "blank 3x2 Any 1", "blank 3x2 anys 1", "blank 3x2 an 1", "blank 3x2 grains 1", "blank 3x2 none 1", "blank 3x2 any grain 1", "blank any 3x2 1", "blank 3 2 any 1", "blank 3 x 2 any 1", "blank 3X2 any 1", "blank 3~2 any 1", "blank 3xx2 any 1", "blank 3x2x1 any 1", "blank 3x2 any 1 1", "blank 3x2 any 0~1", "sawn 0", "saw", "sawnn", "sawn sawn"} {
		wrong(t, sheetLine+other+"\n"+sawnLine, 2)
		wrong(t, other+"\n"+sawnLine, 1)
		wrong(t, sheetLine+anyLine+other+"\n", 3)
	}
	for _, other := range []string{"sheet", "sheet ", "sheet 6", "sheet 6x12", "sheet 6x12 0~1", "sheet 6x12 0~1 ", "sheet 6x12 0~1 2", "sheet 6x12 0~1 2~", "sheet 6x12 0~1 ~2", "sheet 6x12 ~ 2~2", "sheet x 0~1 2~2", "sheet 6~12 0~1 2~2", "sheet 6x12 0x1 2~2", "sheet 6x12 0~1 2x2", "sheet 6x12 0-1 2~2", "sheet 6x12 0~1~2 2~2", "sheet 6x12 0~~1 2~2", "sheet 6x12 0~12~2", "sheet 6x12 0~1 2~2 2~2", "sheet 0~1 2~2 6x12", "sheets 6x12 0~1 2~2"} {
		wrong(t, other+"\n"+sawnLine, 1)
	}
}

// P8.6: the line "sheet" is the first one, and only that; then come blanks, then the end, once, and nothing after it.
func TestReadOrder(t *testing.T) {
	for _, c := range []struct {
		text string
		line int
	}{
		{"", 1},
		{"\n", 1},
		{"\x00", 1},
		{sawnLine, 1},
		{anyLine, 1},
		{anyLine + sheetLine + sawnLine, 1},
		{sawnLine + sheetLine, 1},
		{"\n" + sheetLine + sawnLine, 1},
		{sheetLine, 2},
		{sheetLine + sheetLine + sawnLine, 2},
		{sheetLine + "\n" + sawnLine, 2},
		{sheetLine + anyLine, 3},
		{sheetLine + anyLine + sheetLine + sawnLine, 3},
		{sheetLine + anyLine + grainLine, 4},
		{sheetLine + sawnLine + sawnLine, 3},
		{sheetLine + sawnLine + anyLine, 3},
		{sheetLine + sawnLine + anyLine + sawnLine, 3},
		{sheetLine + sawnLine + sheetLine, 3},
		{sheetLine + sawnLine + "\n", 3},
		{sheetLine + sawnLine + " ", 3},
		{sheetLine + sawnLine + "s", 3},
		{sheetLine + "x\n" + anyLine + "y\n", 2},
		{sheetLine + anyLine + "\x00\n" + sawnLine, 3},
	} {
		wrong(t, c.text, c.line)
	}
	for _, text := range []string{sheetLine + sawnLine, sheetLine + anyLine + sawnLine, sheetLine + grainLine + anyLine + anyLine + sawnLine} {
		right(t, text, api.OK)
	}
}

// P8.6: each line is ended by a line feed.
func TestReadEnds(t *testing.T) {
	text := ""
	for i, line := range textLines() {
		for cut := range len(line) {
			wrong(t, text+line[:cut], i+1)
		}
		text += line
	}
	right(t, text, api.OK)
}

// P8.6: a number is written in one way alone, wherever it stands, and has at most three digits and no sign.
func TestReadNumbers(t *testing.T) {
	lines := textLines()
	const marks, digits = " x~", "0123456789"
	places := 0
	for i, line := range lines {
		body := strings.TrimSuffix(line, "\n")
		head, tail := strings.Join(lines[:i], ""), strings.Join(lines[i+1:], "")
		for at := range body {
			end := at + 1
			for end < len(body) && strings.Contains(digits, body[end:end+1]) {
				end++
			}
			if end == at+1 || !strings.Contains(marks, body[at:at+1]) {
				continue
			}
			places++
			for _, number := range []string{"", "-", "--1", "-0", "-1", "+0", "+1", "00", "01", "001", "1.", "1.0", "1e1", "0x1", "1_0", " 1", "1 ", "١", "a", "#", "1000", "-1000", "0999", "99999999999999999999"} {
				wrong(t, head+body[:at+1]+number+body[end:]+"\n"+tail, i+1)
			}
			right(t, head+body[:at+1]+"999"+body[end:]+"\n"+tail, api.ErrValue)
		}
	}
	if places != 12 {
		t.Error(places)
	}
}

// P8.6: the text is looked at ahead of the stock, whose error has no line.
func TestReadErrorsOfStocks(t *testing.T) {
	for text, want := range map[string]api.Errno{
		"sheet 0x1 0~0 0~0\n" + sawnLine:                              api.ErrValue,
		"sheet 1x13 0~0 0~0\n" + sawnLine:                             api.ErrValue,
		"sheet 12x12 0~0 0~0\n" + sawnLine:                            api.OK,
		"sheet 1x1 1~0 0~0\n" + sawnLine:                              api.ErrOrder,
		"sheet 1x1 1~0 0~3\n" + sawnLine:                              api.ErrOrder,
		"sheet 1x1 0~3 1~0\n" + sawnLine:                              api.ErrValue,
		"sheet 1x1 0~0 2~1\n" + sawnLine:                              api.ErrOrder,
		sheetLine + strings.Repeat(anyLine, 5) + sawnLine:             api.OK,
		sheetLine + strings.Repeat(anyLine, 6) + sawnLine:             api.ErrMany,
		sheetLine + "blank 0x1 any 0\n" + sawnLine:                    api.ErrValue,
		sheetLine + "blank 1x13 any 0\n" + sawnLine:                   api.ErrValue,
		sheetLine + "blank 1x1 grain 4\n" + sawnLine:                  api.ErrValue,
		sheetLine + strings.Repeat("blank 0x0 any 9\n", 6) + sawnLine: api.ErrMany,
	} {
		right(t, text, want)
	}
	wrong(t, "sheet 0x0 1~0 1~0\n"+anyLine, 3)
	wrong(t, sheetLine+"blank 0x0 any 9\nblank 0x0 all 9\n", 3)
	wrong(t, sheetLine+"blank 0x0 any 9\n"+sawnLine+"x", 4)
}

// P8.6: a text has at most 300 bytes, whatever it is.
func TestReadLong(t *testing.T) {
	fits := sheetLine + strings.Repeat(anyLine, 17) + sawnLine // 19, 272 and 5
	for i, c := range []struct {
		text   string
		length int
		line   int
		want   api.Errno
	}{
		{fits, 296, 0, api.ErrMany},
		{fits + strings.Repeat("x", 4), 300, 20, api.ErrText},
		{fits + strings.Repeat("x", 5), 301, 0, api.ErrLong},
		{sheetLine + strings.Repeat(anyLine, 16) + "blank 99x99 grain 99\n" + sawnLine, 301, 0, api.ErrLong},
		{sheetLine + strings.Repeat(anyLine, 16) + "blank 99x99 grain 9\n" + sawnLine, 300, 0, api.ErrMany},
		{strings.Repeat("\n", 300), 300, 1, api.ErrText},
		{strings.Repeat("\n", 301), 301, 0, api.ErrLong},
		{strings.Repeat(" ", 1<<20), 1 << 20, 0, api.ErrLong},
	} {
		if s, n, e := sheet.Read(c.text); len(c.text) != c.length || n != c.line || e != c.want || !isZero(s) {
			t.Error(i, len(c.text), s, n, e)
		}
	}
}

// P8.6, P8.17: what is written is read as it was, and what is read is written as it was.
func TestTextsStay(t *testing.T) {
	d := dice(27)
	const letters = "0123456789x~ \nshetblankgriyw"
	read := 0
	for range 3000 {
		s := d.stock(5, d.roll(1, 12))
		text, e := sheet.Write(s)
		if e != api.OK || len(text) > api.MaxSheet {
			t.Fatal(s, text, e)
		}
		if back, n, e := sheet.Read(text); !equal(back, s) || n != 0 || e != api.OK {
			t.Fatal(s, text, back, n, e)
		}
		for range 20 { // one letter is another one
			at, letter := d.roll(0, len(text)-1), d.roll(0, len(letters)-1)
			other := text[:at] + letters[letter:letter+1] + text[at+1:]
			back, n, e := sheet.Read(other)
			if (n > 0) != (e == api.ErrText) || e != api.OK && !isZero(back) {
				t.Fatal(other, back, n, e)
			}
			if e == api.OK {
				read++
				if again, e := sheet.Write(back); again != other || e != api.OK {
					t.Fatal(other, again, e)
				}
			}
		}
	}
	if read < 1000 {
		t.Error("too few texts were read", read)
	}
}
