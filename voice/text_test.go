package voice_test

import (
	"slices"
	"strings"
	"testing"

	"musette/api"
	"musette/voice"
)

// The lines of a text that is as it has to be.
const (
	lawLine  = "law,20,-2,4,2,3\n"
	lowLine  = "low,-1..1,0..0\n"
	highLine = "high,14..15,-3..1\n"
	fileLine = "file,3..4,2..3,1..2,1..1,20,30..32,40..41,1\n"
)

// textLines returns the lines of a text, those of the middle twice.
func textLines() []string {
	return []string{lawLine, lowLine, lowLine, highLine, highLine, fileLine}
}

// P5.5: texts of boxes, of the least one, and of one with as many lines, as long ones, as there can be.
func TestWriteAndRead(t *testing.T) {
	most := api.Box{
		Law: api.Law{First: 30, Step: -2, Span: 20, Press: 3}, Note: 11,
		Lows:  slices.Repeat([]api.Sound{sound(to(-30, -30), to(-3, -3))}, 4),
		Highs: slices.Repeat([]api.Sound{sound(to(-30, 30), to(-3, 3))}, 5),
		Tip:   to(100, 100), Root: to(0, 100),
		File:  api.File{Up: to(12, 12), Down: to(0, 12), TipWear: to(10, 12), RootWear: to(11, 11), Least: 100},
		Meter: 6,
	}
	for i, c := range []struct {
		b    api.Box
		want string
	}{
		{api.Box{}, "law,0,0,0,0,0\nfile,0..0,0..0,0..0,0..0,0,0..0,0..0,0\n"},
		{boxB(), "law,20,-2,4,2,3\nlow,-1..1,0..0\nlow,5..5,1..1\nhigh,14..15,0..1\nhigh,20..20,0..0\nhigh,30..30,0..0\nfile,3..4,2..3,1..2,1..1,20,30..32,40..41,1\n"},
		{with(nil, boxB().Highs[:1]), "law,20,-2,4,2,3\nhigh,14..15,0..1\nfile,3..4,2..3,1..2,1..1,20,30..32,40..41,1\n"},
		{most, "law,30,-2,20,3,11\n" + strings.Repeat("low,-30..-30,-3..-3\n", 4) + strings.Repeat("high,-30..30,-3..3\n", 5) + "file,12..12,0..12,10..12,11..11,100,100..100,0..100,6\n"},
		{with([]api.Sound{flat(-1, 1), flat(-1, 1)}, slices.Repeat([]api.Sound{sound(to(14, 15), to(-3, 1))}, 2)), strings.Join(textLines(), "")},
	} {
		if s, x := voice.Write(c.b); s != c.want || x != api.OK {
			t.Errorf("%d %q %v", i, s, x)
		}
		if b, line, x := voice.Read(c.want); !equal(b, c.b) || line != 0 || x != api.OK {
			t.Error(i, b, line, x)
		}
	}
}

// wrong tells whether a text has its first wrong line there.
func wrong(t *testing.T, text string, line int) {
	t.Helper()
	if b, n, x := voice.Read(text); n != line || x != api.ErrText || !isZero(b) {
		t.Errorf("%q %v %v %v", text, b, n, x)
	}
}

// right tells whether a text has an error that belongs to no line, or none.
func right(t *testing.T, text string, want api.Errno) {
	t.Helper()
	if b, n, x := voice.Read(text); n != 0 || x != want || x != api.OK && !isZero(b) {
		t.Errorf("%q %v %v %v", text, b, n, x)
	}
}

// P5.5: each line has its form, and the first one that is not as said is named.
func TestReadLines(t *testing.T) {
	lines := textLines()
	for i, line := range lines {
		body := strings.TrimSuffix(line, "\n")
		first, last := strings.Index(body, ","), strings.LastIndex(body, ",")
		for _, other := range []string{
			"", " ", ",", "x", "x,1", " " + body, "," + body, body + " ", body + ",", body + ",0", body + ",0..0", body + "..", body + "..0", body + "..0,", body + "\r", body + body, body + "," + body, body + "\t",
			strings.ToUpper(body), strings.ToUpper(body[:1]) + body[1:], body[1:], body[:2] + body[3:],
			body[:first], body[:first+1], body[:first] + body[first+1:], body[:first] + " " + body[first+1:], body[:first] + "," + body[first:], body[:first] + ", " + body[first+1:], body[:first] + " ," + body[first+1:],
			body[:last], body[:last+1], body[:last] + " " + body[last+1:], body[:last] + ",," + body[last+1:], body[:last] + ";" + body[last+1:],
			body[:last+1] + "1..2..3", body[:last+1] + "1.2", body[:last+1] + "1...2", body[:last+1] + "1....2", body[:last+1] + "1..", body[:last+1] + "..1", body[:last+1] + "..", body[:last+1] + "1-2", body[:last+1] + "1:2", body[:last+1] + "1 .. 2",
			body[:first] + body[first:last] + body[first:last] + body[last:],
		} {
			wrong(t, strings.Join(lines[:i], "")+other+"\n"+strings.Join(lines[i+1:], ""), i+1)
		}
		// Words of other kinds, and ranges where numbers have to be, or the other way round.
		words := strings.Split(body, ",")
		for at, word := range words[1:] {
			other := "1..1"
			if strings.Contains(word, "..") {
				other = "1"
			}
			swapped := slices.Clone(words)
			swapped[at+1] = other
			wrong(t, strings.Join(lines[:i], "")+strings.Join(swapped, ",")+"\n"+strings.Join(lines[i+1:], ""), i+1)
		}
	}
}

// P5.5: the lines come in their order, the first and the last kind once; nothing comes after the end.
func TestReadOrder(t *testing.T) {
	for _, c := range []struct {
		text string
		line int
	}{
		{"", 1},
		{"\n", 1},
		{"\x00", 1},
		{fileLine, 1},
		{lowLine + lawLine + fileLine, 1},
		{highLine + fileLine, 1},
		{lawLine, 2},
		{lawLine + lawLine + fileLine, 2},
		{lawLine + lowLine, 3},
		{lawLine + highLine, 3},
		{lawLine + lowLine + highLine, 4},
		{lawLine + lowLine + lawLine + fileLine, 3},
		{lawLine + highLine + lawLine + fileLine, 3},
		{lawLine + highLine + lowLine + fileLine, 3},
		{lawLine + lowLine + highLine + lowLine + fileLine, 4},
		{lawLine + lowLine + highLine + lowLine, 4},
		{lawLine + fileLine + fileLine, 3},
		{lawLine + fileLine + lowLine, 3},
		{lawLine + fileLine + highLine + fileLine, 3},
		{lawLine + fileLine + lawLine, 3},
		{lawLine + fileLine + "\n", 3},
		{lawLine + fileLine + " ", 3},
		{lawLine + fileLine + "f", 3},
		{lawLine + "\n" + fileLine, 2},
		{lawLine + "x\n" + lowLine + "y\n", 2},
		{lawLine + lowLine + "\n" + fileLine, 3},
		{lawLine + "file\n", 2},
		{lawLine + "mid,0..0,0..0\n" + fileLine, 2},
		{lawLine + "lows,0..0,0..0\n" + fileLine, 2},
	} {
		wrong(t, c.text, c.line)
	}
	for _, text := range []string{lawLine + fileLine, lawLine + lowLine + fileLine, lawLine + highLine + fileLine, lawLine + lowLine + highLine + fileLine, lawLine + lowLine + lowLine + highLine + highLine + fileLine} {
		right(t, text, api.OK)
	}
}

// P5.5: each line is ended by a line feed.
func TestReadEnds(t *testing.T) {
	text := ""
	for i, line := range textLines() {
		for cut := range len(line) {
			wrong(t, text+line[:cut], i+1)
		}
		text += line
	}
	right(t, text, api.OK)
}

// P5.5: a number is written in one way alone, wherever it stands, and has at most three digits, and a sign only if it is below 0.
func TestReadNumbers(t *testing.T) {
	lines := []string{lawLine, lowLine, highLine, fileLine}
	for i, line := range lines {
		body := strings.TrimSuffix(line, "\n")
		head, tail := strings.Join(lines[:i], ""), strings.Join(lines[i+1:], "")
		// Each place at which a number stands: after a comma, or after two dots.
		for at := range body {
			if body[at] != ',' && (body[at] != '.' || body[at-1] != '.') {
				continue
			}
			end := at + 1
			for end < len(body) && body[end] != ',' && body[end] != '.' {
				end++
			}
			for _, number := range []string{"", "-", "--1", "-0", "+0", "+1", "00", "01", "-01", "001", "1.", "1.0", "1e1", "0x1", "1_0", " 1", "1 ", "- 1", "١", "a", "#", "1000", "-1000", "0999", "99999999999999999999", "-9223372036854775809"} {
				wrong(t, head+body[:at+1]+number+body[end:]+"\n"+tail, i+1)
			}
			for _, number := range []string{"999", "-999"} {
				text := head + body[:at+1] + number + body[end:] + "\n" + tail
				if b, n, x := voice.Read(text); n != 0 || x == api.OK || x == api.ErrText || !isZero(b) {
					t.Errorf("%q %v %v %v", text, b, n, x)
				}
			}
		}
	}
}

// P5.5: the text is looked at ahead of the box, whose error has no line.
func TestReadErrorsOfBoxes(t *testing.T) {
	for text, want := range map[string]api.Errno{
		"law,31,0,0,0,0\n" + fileLine:                                                           api.ErrValue,
		"law,0,-6,0,0,0\n" + fileLine:                                                           api.ErrValue,
		"law,-1,0,0,0,0\n" + fileLine:                                                           api.ErrValue,
		"law,0,0,-1,0,0\n" + fileLine:                                                           api.ErrValue,
		"law,0,0,0,4,0\n" + fileLine:                                                            api.ErrValue,
		"law,0,0,0,0,12\n" + fileLine:                                                           api.ErrValue,
		"law,20,-2,4,2,11\n" + fileLine:                                                         api.ErrValue,
		lawLine + "low,2..1,0..0\n" + fileLine:                                                  api.ErrOrder,
		lawLine + "low,1..31,0..0\n" + fileLine:                                                 api.ErrValue,
		lawLine + "low,1..1,1..-1\n" + highLine + fileLine:                                      api.ErrOrder,
		lawLine + "high,1..1,-4..0\n" + fileLine:                                                api.ErrValue,
		lawLine + strings.Repeat(lowLine, 4) + fileLine:                                         api.OK,
		lawLine + strings.Repeat(lowLine, 5) + fileLine:                                         api.ErrMany,
		lawLine + strings.Repeat(highLine, 5) + fileLine:                                        api.OK,
		lawLine + strings.Repeat(highLine, 6) + fileLine:                                        api.ErrMany,
		lawLine + "file,3..4,2..3,1..2,1..1,20,30..32,40..41,7\n":                               api.ErrValue,
		lawLine + "file,4..3,2..3,1..2,1..1,20,30..32,40..41,7\n":                               api.ErrOrder,
		lawLine + "file,3..4,2..3,1..2,1..1,-1,30..32,40..41,1\n":                               api.ErrValue,
		lawLine + "low,0..0,1..0\n" + "file,3..4,2..3,1..2,1..1,20,30..32,40..41,7\n":           api.ErrOrder,
		"law,31,0,0,0,0\nlow,1..0,0..0\n" + strings.Repeat(highLine, 6) + fileLine:              api.ErrValue,
		lawLine + "low,0..0,0..0\n" + "file,3..4,2..3,1..2,1..1,20,32..30,40..41,7\n":           api.ErrOrder,
		lawLine + strings.Repeat(highLine, 6) + "file,4..3,2..3,1..2,1..1,20,30..32,40..41,1\n": api.ErrMany,
	} {
		right(t, text, want)
	}
	wrong(t, "law,31,0,0,0,0\n"+lowLine, 3)
	wrong(t, lawLine+"low,9..0,0..0\nx\n", 3)
	wrong(t, "law,31,0,0,0,0\n"+fileLine+"x", 3)
}

// P5.5: a text has at most 500 bytes, whatever it is.
func TestReadLong(t *testing.T) {
	fits := lawLine + strings.Repeat("low,0..0,0..0\n", 31) // 16 + 434
	fits += strings.Replace(fileLine, "1\n", "100\n", 1)    // 46
	for i, c := range []struct {
		text   string
		length int
		line   int
		want   api.Errno
	}{
		{fits, 496, 0, api.ErrMany},
		{fits + "xxxx", 500, 34, api.ErrText},
		{fits + "xxxxx", 501, 0, api.ErrLong},
		{strings.Repeat("\n", 500), 500, 1, api.ErrText},
		{strings.Repeat("\n", 501), 501, 0, api.ErrLong},
		{strings.Repeat(" ", 1<<20), 1 << 20, 0, api.ErrLong},
	} {
		if b, n, x := voice.Read(c.text); len(c.text) != c.length || n != c.line || x != c.want || !isZero(b) {
			t.Error(i, len(c.text), b, n, x)
		}
	}
}

// P5.5, P5.16: what is written is read as it was, and what is read is written as it was.
func TestTextsStay(t *testing.T) {
	d := dice(9)
	const letters = "0123456789-., \nlawohigfe"
	read := 0
	for range 3000 {
		b := d.box()
		text, x := voice.Write(b)
		if x != api.OK || len(text) > api.MaxBox {
			t.Fatal(b, text, x)
		}
		if back, n, x := voice.Read(text); !equal(back, b) || n != 0 || x != api.OK {
			t.Fatal(b, text, back, n, x)
		}
		for range 20 { // one letter is another one
			at, letter := d.roll(0, len(text)-1), d.roll(0, len(letters)-1)
			other := text[:at] + letters[letter:letter+1] + text[at+1:]
			back, n, x := voice.Read(other)
			if (n > 0) != (x == api.ErrText) || x != api.OK && !isZero(back) {
				t.Fatal(other, back, n, x)
			}
			if x == api.OK {
				read++
				if again, y := voice.Write(back); again != other || y != api.OK {
					t.Fatal(other, again, y)
				}
			}
		}
	}
	if read < 1000 {
		t.Error("too few texts were read", read)
	}
}
