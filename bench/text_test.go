package bench_test

import (
	"slices"
	"strings"
	"testing"

	"musette/api"
	"musette/bench"
)

// The lines of a text that is as it has to be.
const (
	benchesLine = "benches 2\n"
	orderLine   = "order 3 45 1:2-10 0:6-6\n"
	emptyLine   = "order 3 45\n"
	closedLine  = "closed\n"
)

// textLines returns the lines of a text.
func textLines() []string {
	return []string{benchesLine, orderLine, "order 0 200 0:1-20\n", closedLine}
}

// largest returns a shop with as many lines, as long ones, as there can be.
func largest() api.Shop {
	return of(3, slices.Repeat([]api.Task{task(200, 200, work(2, 20, 20), work(2, 20, 20))}, 4)...)
}

// P7.7: texts of shops, of the least one, and of the largest one.
func TestWriteAndRead(t *testing.T) {
	for i, c := range []struct {
		s    api.Shop
		want string
	}{
		{of(1), "benches 1\nclosed\n"},
		{shopS(), "benches 2\norder 0 8 0:2-3 1:4-4\norder 1 6 1:2-2 0:3-5\norder 0 20 1:1-3\nclosed\n"},
		{of(2, task(3, 45, work(1, 2, 10), work(0, 6, 6)), task(0, 200, work(0, 1, 20))), strings.Join(textLines(), "")},
		{largest(), "benches 3\n" + strings.Repeat("order 200 200 2:20-20 2:20-20\n", 4) + "closed\n"},
	} {
		if text, e := bench.Write(c.s); text != c.want || e != api.OK {
			t.Errorf("%d %q %v", i, text, e)
		}
		if s, line, e := bench.Read(c.want); !equal(s, c.s) || line != 0 || e != api.OK {
			t.Error(i, s, line, e)
		}
	}
}

// wrong tells whether a text has its first wrong line there.
func wrong(t *testing.T, text string, line int) {
	t.Helper()
	if s, n, e := bench.Read(text); n != line || e != api.ErrText || !isZero(s) {
		t.Errorf("%q %v %v %v", text, s, n, e)
	}
}

// right tells whether a text has an error that belongs to no line, or none.
func right(t *testing.T, text string, want api.Errno) {
	t.Helper()
	if s, n, e := bench.Read(text); n != 0 || e != want || e != api.OK && !isZero(s) {
		t.Errorf("%q %v %v %v", text, s, n, e)
	}
}

// P7.7: each line has its form, and the first one that is not as said is named.
func TestReadLines(t *testing.T) {
	lines := textLines()
	for i, line := range lines {
		body := strings.TrimSuffix(line, "\n")
		head, tail := strings.Join(lines[:i], ""), strings.Join(lines[i+1:], "")
		others := []string{"", " ", "x", "x 1", " " + body, body + " ", body + " 0", body + "  0:1-1", body + " 0:1", body + " 0-1", body + " 0:1:1", body + " 0:1-1-1", body + " 0-1:1", body + " :1-1", body + " 0:-1", body + " 0:1-", body + " 0:-", body + " 0 :1-1", body + ":", body + "-", body + "\r", body + "\t", body + "\x00", body + body, strings.ToUpper(body), strings.ToUpper(body[:1]) + body[1:], body[1:], body[:2] + body[3:], body + " closed"}
		if at := strings.Index(body, " "); at > 0 {
			others = append(others, body[:at], body[:at+1], body[:at]+"s"+body[at:], body[:at]+" "+body[at:], body[:at]+"\t"+body[at+1:], body[:at]+body[at+1:], body[:at]+","+body[at+1:], body[:at]+" 1:1-1"+body[at:], body[:at]+" 1-1"+body[at:], body[:at]+" a"+body[at:])
		}
		for _, other := range others {
			wrong(t, head+other+"\n"+tail, i+1)
		}
	}
	for _, other := range []string{"benches 2 2", "benches 2 0:1-1", "benches 0:1-1", "order", "order ", "order 3", "order 3 ", "order 3 45 1", "order 3 1:2-10", "order 1:2-10 0:6-6", "order 3 45  1:2-10", "order 3 45 1:2-10  0:6-6", "order 3 45 1:2-10,0:6-6", "order 3 45 1:2-100:6-6", "order 3 45 1:2 10", "order 3 45 1:2..10", "order 3 45 1-2-10", "closed 0", "close", "closedd", "closed closed"} {
		wrong(t, benchesLine+other+"\n"+closedLine, 2)
		wrong(t, other+"\n"+closedLine, 1)
		wrong(t, benchesLine+orderLine+other+"\n", 3)
	}
}

// P7.7: the line "benches" is the first one, and only that; then come orders, then the end, once, and nothing after it.
func TestReadOrder(t *testing.T) {
	for _, c := range []struct {
		text string
		line int
	}{
		{"", 1},
		{"\n", 1},
		{"\x00", 1},
		{closedLine, 1},
		{orderLine, 1},
		{orderLine + benchesLine + closedLine, 1},
		{closedLine + benchesLine, 1},
		{"\n" + benchesLine + closedLine, 1},
		{benchesLine, 2},
		{benchesLine + benchesLine + closedLine, 2},
		{benchesLine + "\n" + closedLine, 2},
		{benchesLine + orderLine, 3},
		{benchesLine + orderLine + benchesLine + closedLine, 3},
		{benchesLine + orderLine + orderLine, 4},
		{benchesLine + closedLine + closedLine, 3},
		{benchesLine + closedLine + orderLine, 3},
		{benchesLine + closedLine + orderLine + closedLine, 3},
		{benchesLine + closedLine + benchesLine, 3},
		{benchesLine + closedLine + "\n", 3},
		{benchesLine + closedLine + " ", 3},
		{benchesLine + closedLine + "c", 3},
		{benchesLine + "x\n" + orderLine + "y\n", 2},
		{benchesLine + orderLine + "\x00\n" + closedLine, 3},
	} {
		wrong(t, c.text, c.line)
	}
	for text, want := range map[string]api.Errno{
		benchesLine + closedLine:                         api.OK,
		benchesLine + orderLine + closedLine:             api.OK,
		benchesLine + orderLine + orderLine + closedLine: api.OK,
	} {
		right(t, text, want)
	}
}

// P7.7: each line is ended by a line feed.
func TestReadEnds(t *testing.T) {
	text := ""
	for i, line := range textLines() {
		for cut := range len(line) {
			wrong(t, text+line[:cut], i+1)
		}
		text += line
	}
	right(t, text, api.OK)
}

// P7.7: a number is written in one way alone, wherever it stands, and has at most three digits and no sign.
func TestReadNumbers(t *testing.T) {
	lines := textLines()
	places := 0
	for i, line := range lines {
		body := strings.TrimSuffix(line, "\n")
		head, tail := strings.Join(lines[:i], ""), strings.Join(lines[i+1:], "")
		for at := range body {
			if !strings.ContainsRune(" :-", rune(body[at])) {
				continue
			}
			places++
			end := at + 1
			for end < len(body) && !strings.ContainsRune(" :-", rune(body[end])) {
				end++
			}
			for _, number := range []string{"", "-", "--1", "-0", "-1", "+0", "+1", "00", "01", "001", "1.", "1.0", "1e1", "0x1", "1_0", " 1", "1 ", "١", "a", "#", "1000", "-1000", "0999", "99999999999999999999"} {
				wrong(t, head+body[:at+1]+number+body[end:]+"\n"+tail, i+1)
			}
			text := head + body[:at+1] + "999" + body[end:] + "\n" + tail
			if s, n, e := bench.Read(text); n != 0 || e == api.OK || e == api.ErrText || !isZero(s) {
				t.Errorf("%q %v %v %v", text, s, n, e)
			}
		}
	}
	if places != 14 {
		t.Error(places)
	}
}

// P7.7: the text is looked at ahead of the shop, whose error has no line; an order may have no work in a text.
func TestReadErrorsOfShops(t *testing.T) {
	const one = "order 0 9 0:1-1\n"
	for text, want := range map[string]api.Errno{
		"benches 0\n" + closedLine:                                                                   api.ErrValue,
		"benches 4\n" + closedLine:                                                                   api.ErrValue,
		"benches 3\n" + closedLine:                                                                   api.OK,
		benchesLine + emptyLine + closedLine:                                                         api.ErrFew,
		benchesLine + orderLine + emptyLine + closedLine:                                             api.ErrFew,
		benchesLine + "order 201 45\n" + closedLine:                                                  api.ErrValue,
		benchesLine + "order 3 201 0:1-1\n" + closedLine:                                             api.ErrValue,
		benchesLine + "order 3 45 2:0-0\n" + closedLine:                                              api.ErrUnknown,
		benchesLine + "order 3 45 1:0-1\n" + closedLine:                                              api.ErrValue,
		benchesLine + "order 3 45 1:1-21\n" + closedLine:                                             api.ErrValue,
		benchesLine + "order 3 45 1:3-2\n" + closedLine:                                              api.ErrOrder,
		benchesLine + strings.Repeat(one, 4) + closedLine:                                            api.OK,
		benchesLine + strings.Repeat(one, 5) + closedLine:                                            api.ErrMany,
		benchesLine + strings.Repeat(emptyLine, 5) + closedLine:                                      api.ErrMany,
		benchesLine + "order 0 9" + strings.Repeat(" 0:1-1", 8) + "\n" + closedLine:                  api.OK,
		benchesLine + "order 0 9" + strings.Repeat(" 0:1-1", 9) + "\n" + closedLine:                  api.ErrMany,
		benchesLine + "order 0 9" + strings.Repeat(" 0:1-1", 8) + "\n" + one + closedLine:            api.ErrMany,
		benchesLine + "order 0 9" + strings.Repeat(" 0:1-1", 9) + "\norder 0 9 0:2-1\n" + closedLine: api.ErrOrder,
	} {
		right(t, text, want)
	}
	wrong(t, "benches 0\n"+orderLine, 3)
	wrong(t, benchesLine+emptyLine+"order 1 2 3\n", 3)
	wrong(t, benchesLine+emptyLine+closedLine+"x", 4)
}

// P7.7: a text has at most 300 bytes, whatever it is.
func TestReadLong(t *testing.T) {
	fits := benchesLine + strings.Repeat(orderLine, 11) + "order 0 0\n" + closedLine // 10, 264, 10 and 7
	for i, c := range []struct {
		text   string
		length int
		line   int
		want   api.Errno
	}{
		{fits, 291, 0, api.ErrMany},
		{fits + strings.Repeat("x", 9), 300, 15, api.ErrText},
		{fits + strings.Repeat("x", 10), 301, 0, api.ErrLong},
		{benchesLine + strings.Repeat(orderLine, 11) + "order 9 9 0:1\n" + closedLine, 295, 13, api.ErrText},
		{benchesLine + "order 0 9" + strings.Repeat(" 0:1-1", 45) + " 0:\n" + closedLine, 300, 2, api.ErrText},
		{benchesLine + "order 20 9" + strings.Repeat(" 0:1-1", 45) + "\n" + closedLine, 298, 0, api.ErrMany},
		{benchesLine + "order 200 200" + strings.Repeat(" 0:1-1", 44) + " 0:1-1\n" + closedLine, 301, 0, api.ErrLong},
		{benchesLine + "order 20 200" + strings.Repeat(" 0:1-1", 44) + " 0:1-1\n" + closedLine, 300, 0, api.ErrMany},
		{strings.Repeat("\n", 300), 300, 1, api.ErrText},
		{strings.Repeat("\n", 301), 301, 0, api.ErrLong},
		{strings.Repeat(" ", 1<<20), 1 << 20, 0, api.ErrLong},
	} {
		if s, n, e := bench.Read(c.text); len(c.text) != c.length || n != c.line || e != c.want || !isZero(s) {
			t.Error(i, len(c.text), s, n, e)
		}
	}
}

// P7.7, P7.17: what is written is read as it was, and what is read is written as it was.
func TestTextsStay(t *testing.T) {
	d := dice(10)
	const letters = "0123456789-: \nbenchsordcl"
	read := 0
	for range 3000 {
		s := d.shop(8, d.roll(1, 20))
		text, e := bench.Write(s)
		if e != api.OK || len(text) > api.MaxShop {
			t.Fatal(s, text, e)
		}
		if back, n, e := bench.Read(text); !equal(back, s) || n != 0 || e != api.OK {
			t.Fatal(s, text, back, n, e)
		}
		for range 20 { // one letter is another one
			at, letter := d.roll(0, len(text)-1), d.roll(0, len(letters)-1)
			other := text[:at] + letters[letter:letter+1] + text[at+1:]
			back, n, e := bench.Read(other)
			if (n > 0) != (e == api.ErrText) || e != api.OK && !isZero(back) {
				t.Fatal(other, back, n, e)
			}
			if e == api.OK {
				read++
				if again, e := bench.Write(back); again != other || e != api.OK {
					t.Fatal(other, again, e)
				}
			}
		}
	}
	if read < 1000 {
		t.Error("too few texts were read", read)
	}
}
