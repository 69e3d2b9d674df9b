package bellow_test

import (
	"slices"
	"strings"
	"testing"

	"musette/api"
	"musette/bellow"
)

// The lines of a text that is as it has to be.
const (
	fullLine   = "full 9 1-2\n"
	cornerLine = "corner 0-1\n"
	testLine   = "test 0 5 0-9\n"
	bothLine   = "test 0+1 5 0-9\n"
	noteLine   = "note 1 2-3\n"
	restLine   = "rest 4 5-6\n"
	fineLine   = "fine\n"
)

// textLines returns the lines of a text, those of the middle twice.
func textLines() []string {
	return []string{fullLine, cornerLine, cornerLine, testLine, bothLine, noteLine, restLine, fineLine}
}

// P4.6: texts of bellows and pieces, of the least ones, and of those with as many lines as there can be.
func TestWriteAndRead(t *testing.T) {
	most, piece := largest()
	for i, c := range []struct {
		b    api.Bellow
		p    []api.Note
		want string
	}{
		{tight(1, 0, 0), nil, "full 1 0-0\nfine\n"},
		{bellowsB(), pieceP(), "full 100 40-40\ncorner 0-2\ncorner 1-3\ntest 0+1 10 25-30\nnote 4 2-3\nrest 5 3-3\nnote 6 1-2\nfine\n"},
		{bellowsB(), nil, "full 100 40-40\ncorner 0-2\ncorner 1-3\ntest 0+1 10 25-30\nfine\n"},
		{tight(200, 0, 200), []api.Note{rest(20, 0, 9)}, "full 200 0-200\nrest 20 0-9\nfine\n"},
		{most, piece, "full 200 0-200\n" + strings.Repeat("corner 0-5\n", 4) + strings.Repeat("test 0+1+2+3 20 0-400\n", 3) + strings.Repeat("rest 20 0-9\n", 6) + "fine\n"},
		{api.Bellow{Full: 9, Air: to(1, 2), Corners: []api.Range{to(0, 1), to(0, 1)}, Tests: []api.Leakage{lost(5, 0, 9, 0), lost(5, 0, 9, 0, 1)}}, []api.Note{note(1, 2, 3), rest(4, 5, 6)}, strings.Join(textLines(), "")},
	} {
		if s, x := bellow.Write(c.b, c.p); s != c.want || x != api.OK {
			t.Errorf("%d %q %v", i, s, x)
		}
		if b, p, line, x := bellow.Read(c.want); !equal(b, c.b) || !slices.Equal(p, c.p) || line != 0 || x != api.OK {
			t.Error(i, b, p, line, x)
		}
	}
}

// P4.6: a bellows without a truth is written and read as others are.
func TestTextsAgainst(t *testing.T) {
	text, x := bellow.Write(but(func(b *api.Bellow) { b.Corners[1] = to(0, 0) }), pieceQ())
	b, p, line, y := bellow.Read(text)
	if again, z := bellow.Write(b, p); x != api.OK || y != api.OK || z != api.OK || line != 0 || again != text || !strings.Contains(text, "corner 0-0\n") {
		t.Error(text, again, line, x, y, z)
	}
}

// wrong tells whether a text has its first wrong line there.
func wrong(t *testing.T, text string, line int) {
	t.Helper()
	if b, p, n, x := bellow.Read(text); n != line || x != api.ErrText || !isZero(b) || len(p) > 0 {
		t.Errorf("%q %v %v %v %v", text, b, p, n, x)
	}
}

// right tells whether a text has an error that belongs to no line, or none.
func right(t *testing.T, text string, want api.Errno) {
	t.Helper()
	if b, p, n, x := bellow.Read(text); n != 0 || x != want || x != api.OK && (!isZero(b) || len(p) > 0) {
		t.Errorf("%q %v %v %v %v", text, b, p, n, x)
	}
}

// P4.6: each line has its form, and the first one that is not as said is named.
func TestReadLines(t *testing.T) {
	lines := textLines()
	for i, line := range lines {
		body := strings.TrimSuffix(line, "\n")
		others := []string{"", " ", "x", "x 1", " " + body, body + " ", body + " 0", body + " 0-0", body + "-", body + "-0", body + "+0", body + "\r", body + body, body + "\t", strings.ToUpper(body), strings.ToUpper(body[:1]) + body[1:], body[:3] + body[4:]}
		if at := strings.LastIndex(body, " "); at > 0 {
			others = append(others, body[:at], body[:at+1], body[:4], body[:4]+" ", strings.Replace(body, " ", "  ", 1), strings.Replace(body, " ", "\t", 1), strings.Replace(body, " ", "", 1), strings.Replace(body, "-", " ", 1), strings.Replace(body, "-", "--", 1), strings.Replace(body, "-", "..", 1), strings.Replace(body, "-", "+", 1), strings.Replace(body, "-", " - ", 1), body[:at]+" 1", body[:at]+" 1-", body[:at]+" -1", body[:at]+" -", body[:at]+" 1-2-3")
		}
		for _, other := range others {
			wrong(t, strings.Join(lines[:i], "")+other+"\n"+strings.Join(lines[i+1:], ""), i+1)
		}
	}
}

// P4.6: a test has at least one corner, with plus signs between them.
func TestReadOpen(t *testing.T) {
	head := fullLine + cornerLine + cornerLine
	for _, open := range []string{"", "+", "0+", "+0", "0++1", "0+1+", "+0+1", "0,1", "0-1", "0 1", "0+ 1", "0 +1", "0+a", "0+-1", "0+01", "none", "10000", "0+10000"} {
		wrong(t, head+"test "+open+" 5 0-9\n"+fineLine, 4)
	}
	wrong(t, head+"test 5 0-9\n"+fineLine, 4)
	for open, want := range map[string]api.Errno{"0": api.OK, "1": api.OK, "0+1": api.OK, "1+0": api.ErrOrder, "0+0": api.ErrOrder, "2": api.ErrUnknown, "0+1+2": api.ErrUnknown, "0+9999": api.ErrUnknown, "0+1+1+0+0+1": api.ErrOrder} {
		right(t, head+"test "+open+" 5 0-9\n"+fineLine, want)
	}
}

// P4.6: the lines come in their order, the first and the last kind once; nothing comes after the end.
func TestReadOrder(t *testing.T) {
	kinds := []string{fullLine, cornerLine, testLine, noteLine, fineLine}
	for i, one := range kinds {
		for j, other := range kinds[:i+1] {
			text := strings.Join(kinds[:i+1], "")
			if i == j && 0 < i && i < 4 {
				continue
			}
			wrong(t, text+other+strings.Join(kinds[i:], ""), i+2)
			if i > 0 && j < i {
				wrong(t, fullLine+one+other+fineLine, 3)
			}
		}
		if i > 0 {
			wrong(t, one+strings.Join(kinds, ""), 1)
		}
	}
	for _, c := range []struct {
		text string
		line int
	}{
		{"", 1},
		{"\n", 1},
		{fineLine, 1},
		{restLine, 1},
		{fullLine, 2},
		{fullLine + noteLine, 3},
		{fullLine + cornerLine + testLine + noteLine + restLine, 6},
		{fullLine + restLine + cornerLine + fineLine, 3},
		{fullLine + cornerLine + restLine + testLine + fineLine, 4},
		{fullLine + fineLine + "\n", 3},
		{fullLine + fineLine + " ", 3},
		{fullLine + fineLine + "f", 3},
		{fullLine + fineLine + fullLine, 3},
		{fullLine + fineLine + noteLine + fineLine, 3},
		{fullLine + "\n" + fineLine, 2},
		{fullLine + "x\n" + noteLine + "y\n", 2},
		{fullLine + "fine 1\n", 2},
		{fullLine + noteLine + "\x00" + fineLine, 3},
	} {
		wrong(t, c.text, c.line)
	}
	for _, text := range []string{fullLine + fineLine, fullLine + noteLine + fineLine, fullLine + restLine + noteLine + restLine + fineLine, fullLine + cornerLine + noteLine + fineLine, fullLine + cornerLine + testLine + fineLine} {
		right(t, text, api.OK)
	}
}

// P4.6: each line is ended by a line feed.
func TestReadEnds(t *testing.T) {
	text := ""
	for i, line := range textLines() {
		for cut := range len(line) {
			wrong(t, text+line[:cut], i+1)
		}
		text += line
	}
	right(t, text, api.OK)
}

// P4.6: a number is written in one way alone, wherever it stands, and has at most four digits.
func TestReadNumbers(t *testing.T) {
	head := fullLine + cornerLine
	for _, place := range []struct{ head, line string }{
		{"", "full # 1-2\n"}, {"", "full 9 #-2\n"}, {"", "full 9 1-#\n"},
		{fullLine, "corner #-1\n"}, {fullLine, "corner 0-#\n"},
		{head, "test # 5 0-9\n"}, {head, "test 0+# 5 0-9\n"}, {head, "test #+0 5 0-9\n"}, {head, "test 0 # 0-9\n"}, {head, "test 0 5 #-9\n"}, {head, "test 0 5 0-#\n"},
		{head, "note # 2-3\n"}, {head, "note 1 #-3\n"}, {head, "note 1 2-#\n"},
		{head, "rest # 2-3\n"}, {head, "rest 1 #-3\n"}, {head, "rest 1 2-#\n"},
	} {
		line := 1 + strings.Count(place.head, "\n")
		for _, number := range []string{"", "-", "-0", "-1", "+0", "+1", "00", "01", "001", "1.", "1.0", "1e1", "0x1", "1_0", " 1", "1 ", "١", "a", "#", "10000", "09999", "99999999999999999999"} {
			wrong(t, place.head+strings.Replace(place.line, "#", number, 1)+fineLine, line)
		}
		text := place.head + strings.Replace(place.line, "#", "9999", 1) + fineLine
		if b, p, n, x := bellow.Read(text); n != 0 || x == api.OK || x == api.ErrText || !isZero(b) || len(p) > 0 {
			t.Errorf("%q %v %v %v", text, b, n, x)
		}
	}
}

// P4.6: the text is looked at ahead of the bellows, and this ahead of the piece; their errors have no line.
func TestReadErrorsOfBellows(t *testing.T) {
	for text, want := range map[string]api.Errno{
		"full 0 0-0\n" + fineLine:                                                  api.ErrValue,
		"full 201 0-0\n" + fineLine:                                                api.ErrValue,
		"full 9 1-10\n" + fineLine:                                                 api.ErrValue,
		"full 9 2-1\n" + fineLine:                                                  api.ErrOrder,
		"full 9 2-1\nnote 0 0-0\n" + fineLine:                                      api.ErrOrder,
		fullLine + strings.Repeat(cornerLine, 4) + fineLine:                        api.OK,
		fullLine + strings.Repeat(cornerLine, 5) + fineLine:                        api.ErrMany,
		fullLine + cornerLine + strings.Repeat(testLine, 3) + fineLine:             api.OK,
		fullLine + cornerLine + strings.Repeat(testLine, 4) + fineLine:             api.ErrMany,
		fullLine + strings.Repeat(restLine, 6) + fineLine:                          api.OK,
		fullLine + strings.Repeat(restLine, 6) + noteLine + fineLine:               api.ErrMany,
		fullLine + testLine + fineLine:                                             api.ErrUnknown,
		fullLine + testLine + strings.Repeat(noteLine, 7) + fineLine:               api.ErrUnknown,
		fullLine + "corner 0-6\n" + fineLine:                                       api.ErrValue,
		fullLine + "corner 2-1\n" + fineLine:                                       api.ErrOrder,
		fullLine + cornerLine + "test 0 0 0-9\n" + fineLine:                        api.ErrValue,
		fullLine + cornerLine + "test 0 1 9-0\n" + fineLine:                        api.ErrOrder,
		fullLine + cornerLine + "test 0 1 0-401\n" + "note 1 2-1\n" + fineLine:     api.ErrValue,
		fullLine + "note 21 0-0\n" + fineLine:                                      api.ErrValue,
		fullLine + "note 1 0-10\n" + fineLine:                                      api.ErrValue,
		fullLine + "rest 1 2-1\n" + fineLine:                                       api.ErrOrder,
		fullLine + "rest 1 2-1\n" + strings.Repeat("note 0 0-0\n", 5) + fineLine:   api.ErrOrder,
		"full 0 9-0\n" + strings.Repeat(cornerLine, 9) + "rest 1 2-1\n" + fineLine: api.ErrValue,
	} {
		right(t, text, want)
	}
	wrong(t, "full 0 0-0\n"+noteLine, 3)
	wrong(t, fullLine+"corner 9-0\nx\n", 3)
	wrong(t, fullLine+"rest 1 2-1\n"+fineLine+"x", 4)
}

// P4.6: a text has at most 400 bytes, whatever it is.
func TestReadLong(t *testing.T) {
	fits := fullLine + strings.Repeat(cornerLine, 34) + fineLine // 11 + 374 + 5
	for i, c := range []struct {
		text   string
		length int
		line   int
		want   api.Errno
	}{
		{fits, 390, 0, api.ErrMany},
		{fits + strings.Repeat("x", 10), 400, 37, api.ErrText},
		{fits + strings.Repeat("x", 11), 401, 0, api.ErrLong},
		{strings.Repeat("\n", 400), 400, 1, api.ErrText},
		{strings.Repeat("\n", 401), 401, 0, api.ErrLong},
		{strings.Repeat(" ", 1<<20), 1 << 20, 0, api.ErrLong},
	} {
		if b, p, n, x := bellow.Read(c.text); len(c.text) != c.length || n != c.line || x != c.want || !isZero(b) || len(p) > 0 {
			t.Error(i, len(c.text), b, p, n, x)
		}
	}
}

// P4.6, P4.17: what is written is read as it was, and what is read is written as it was.
func TestTextsStay(t *testing.T) {
	d := dice(9)
	const letters = "0123456789-+ \nfulcornetsi"
	read := 0
	for range 3000 {
		b, p := d.against(), d.piece(6)
		text, x := bellow.Write(b, p)
		if x != api.OK || len(text) > api.MaxPiece {
			t.Fatal(b, p, text, x)
		}
		if back, notes, n, x := bellow.Read(text); !equal(back, b) || !slices.Equal(notes, p) || n != 0 || x != api.OK {
			t.Fatal(b, p, text, back, notes, n, x)
		}
		for range 20 { // one letter is another one
			at, letter := d.roll(0, len(text)-1), d.roll(0, len(letters)-1)
			other := text[:at] + letters[letter:letter+1] + text[at+1:]
			back, notes, n, x := bellow.Read(other)
			if (n > 0) != (x == api.ErrText) || x != api.OK && (!isZero(back) || len(notes) > 0) {
				t.Fatal(other, back, notes, n, x)
			}
			if x == api.OK {
				read++
				if again, y := bellow.Write(back, notes); again != other || y != api.OK {
					t.Fatal(other, again, y)
				}
			}
		}
	}
	if read < 1000 {
		t.Error("too few texts were read", read)
	}
}
