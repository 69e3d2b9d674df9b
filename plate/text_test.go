package plate_test

import (
	"slices"
	"strings"
	"testing"

	"musette/api"
	"musette/plate"
)

// The lines of a text that is as it has to be.
const (
	works  = "works 2\n"
	model  = "model 1900\n"
	look   = "look 1.3 20=4000\n"
	last   = "old 1.0 0?99 1\n"
	museum = "museum\n"
)

// textLines returns the lines of a text.
func textLines() []string { return []string{works, model, look, look, model, look, last, museum} }

// P10.6: texts of catalogues and instruments, of the least ones, and of the largest ones.
func TestWriteAndRead(t *testing.T) {
	largest := made(1999)
	for range api.MaxMade {
		largest.Looks, largest.Numbers = append(largest.Looks, []int{3, 2, 1, 3}), append(largest.Numbers, to(9998, 9999))
	}
	for i, c := range []struct {
		c    api.Catalogue
		o    api.Old
		want string
	}{
		{of(1, made(1800, year{[]int{1}, 0, 0})), old("", 0, 0), "works 1\nmodel 1800\nlook 1 0=0\nold 0 - 0\nmuseum\n"},
		{of(1, made(1999, year{[]int{3}, 0, 9999})), old("0000", 4, 3), "works 1\nmodel 1999\nlook 3 0=9999\nold 3 0000 4\nmuseum\n"},
		{catalogueC(), instrumentO(), "works 2\nmodel 1920\nlook 1.1 100=199\nlook 1.2 200=299\nmodel 1921\nlook 1.2 250=349\nlook 2.2 350=399\nold 1.0 02?? 0\nmuseum\n"},
		{catalogueC(), changing(with(instrumentP(), "????"), 3), "works 2\nmodel 1920\nlook 1.1 100=199\nlook 1.2 200=299\nmodel 1921\nlook 1.2 250=349\nlook 2.2 350=399\nold 1.0 ???? 3\nmuseum\n"},
		{of(2, made(1900, year{[]int{1, 3}, 20, 4000}, year{[]int{1, 3}, 20, 4000}), made(1900, year{[]int{1, 3}, 20, 4000})), old("0?99", 1, 1, 0), strings.Join(textLines(), "")},
		{of(4, slices.Repeat([]api.Model{largest}, 4)...), old("?7?9", 2, 0, 1, 2, 3), "works 4\n" + strings.Repeat("model 1999\n"+strings.Repeat("look 3.2.1.3 9998=9999\n", 4), 4) + "old 0.1.2.3 ?7?9 2\nmuseum\n"},
		{catalogueC(), old("9999", 0, 3, 3), "works 2\nmodel 1920\nlook 1.1 100=199\nlook 1.2 200=299\nmodel 1921\nlook 1.2 250=349\nlook 2.2 350=399\nold 3.3 9999 0\nmuseum\n"}, // it has no truth
	} {
		if text, e := plate.Write(c.c, c.o); text != c.want || e != api.OK {
			t.Errorf("%d %q %v", i, text, e)
		}
		if back, o, line, e := plate.Read(c.want); !equal(back, c.c) || !alike(o, c.o) || line != 0 || e != api.OK {
			t.Error(i, back, o, line, e)
		}
	}
}

// wrong tells whether a text has its first wrong line there.
func wrong(t *testing.T, text string, line int) {
	t.Helper()
	if c, o, n, e := plate.Read(text); n != line || e != api.ErrText || !isZero(c, o) {
		t.Errorf("%q %v %v %v %v", text, c, o, n, e)
	}
}

// right tells whether a text has an error that belongs to no line, or none.
func right(t *testing.T, text string, want api.Errno) {
	t.Helper()
	if c, o, n, e := plate.Read(text); n != 0 || e != want || e != api.OK && !isZero(c, o) {
		t.Errorf("%q %v %v %v %v", text, c, o, n, e)
	}
}

// P10.6: each line has its form, and the first one that is not as said is named.
func TestReadLines(t *testing.T) {
	lines := textLines()
	for i, line := range lines {
		body := strings.TrimSuffix(line, "\n")
		head, tail := strings.Join(lines[:i], ""), strings.Join(lines[i+1:], "")
		others := []string{"", " ", ".", "=", "x", "x 1", " " + body, body + " ", body + " 0", body + "  0", body + ".", body + ".0 ", body + "=", body + "=1", body + "-", body + "x", body + "?", body + "\r", body + "\t", body + "\x00", body + "\xff", body + " " + body, body + body, strings.ToUpper(body), strings.ToUpper(body[:1]) + body[1:], body[1:], body[:2] + body[3:], body + " museum"}
		if at := strings.Index(body, " "); at > 0 {
			others = append(others, body[:at], body[:at+1], body[:at]+"s"+body[at:], body[:at]+" "+body[at:], body[:at]+"\t"+body[at+1:], body[:at]+body[at+1:], body[:at]+" 1"+body[at:], body[:at]+" ?"+body[at:], strings.ReplaceAll(body, " ", "  "), strings.ReplaceAll(body, " ", "."), body[:strings.LastIndex(body, " ")])
		}
		for _, other := range others {
			wrong(t, head+other+"\n"+tail, i+1)
		}
	}
	for _, other := range []string{"works", "works ", "works -", "works 1.1", "works 1=1", "works ?", "work 2", "worksx 2", "works 2 2"} {
		wrong(t, other+"\n"+model+look+last+museum, 1)
	}
	for _, other := range []string{"model", "model ", "model 1900.1901", "model 1900=1901", "model -", "models 1900", "look", "look ", "look 1", "look 1.3", "look 1.3 ", "look  20=40", "look . 20=40", "look 1. 20=40", "look .1 20=40", "look 1..3 20=40", "look 1.3. 20=40", "look 1,3 20=40", "look 13- 20=40", "look - 20=40", "look ? 20=40", "look 1=3 20=40", "look 1.3 20", "look 1.3 =", "look 1.3 20=", "look 1.3 =40", "look 1.3 20=40=60", "look 1.3 20==40", "look 1.3 20-40", "look 1.3 20..40", "look 1.3 20 40", "look 1.3 20=40 1", "look 20=40 1.3", "looks 1.3 20=40", "old", "old ", "old 1.0", "old 1.0 0?99", "old 1.0 0?99 ", "old 1.0  1", "old  0?99 1", "old 1.0 0?99 1.", "old 1.0 0?99 1.0", "old 1.0 0?99 ?", "old 1.0 0?99 -", "old - 0?99 1", "old ? 0?99 1", "old 1. 0?99 1", "old 1.? 0?99 1", "old 1=0 0?99 1", "old 1.0 0? 99 1", "old 1.0 0?99 1 1", "olds 1.0 0?99 1", "museum ", "museum 0", "museums", "museu", ""} {
		wrong(t, works+model+other+"\n"+last+museum, 3)
	}
}

// P10.6: the line "works" is the first one; "look" comes after "model" or "look"; "old" comes after them, once, and then the end, and nothing after it.
func TestReadOrder(t *testing.T) {
	for _, c := range []struct {
		text string
		line int
	}{
		{"", 1}, {"\n", 1}, {"\x00", 1}, {museum, 1}, {model, 1}, {look, 1}, {last, 1}, {last + museum, 1},
		{model + works + look + last + museum, 1},
		{"\n" + works + model + look + last + museum, 1},
		{works, 2}, {works + works, 2}, {works + works + model + look + last + museum, 2},
		{works + look, 2}, {works + look + model + look + last + museum, 2}, {works + museum, 2},
		{works + "\n" + model + look + last + museum, 2},
		{works + model, 3}, {works + model + works + look + last + museum, 3}, {works + model + museum, 3},
		{works + model + look, 4}, {works + model + look + works + last + museum, 4}, {works + model + look + museum, 4},
		{works + model + look + look + museum, 5},
		{works + model + look + last, 5}, {works + model + look + last + last + museum, 5}, {works + model + look + last + look + museum, 5}, {works + model + look + last + model + look + last + museum, 5}, {works + model + look + last + works, 5}, {works + model + look + last + "\n" + museum, 5},
		{works + last, 3}, {works + last + model, 3}, {works + last + last, 3},
		{works + model + look + last + museum + museum, 6}, {works + model + look + last + museum + last, 6}, {works + model + look + last + museum + works + model + look + last + museum, 6}, {works + model + look + last + museum + "\n", 6}, {works + model + look + last + museum + " ", 6}, {works + model + look + last + museum + "m", 6},
		{works + "x\n" + look + "y\n", 2},
		{works + model + "\x00\n" + museum, 3},
	} {
		wrong(t, c.text, c.line)
	}
	right(t, works+model+look+last+museum, api.OK)
	right(t, works+model+look+look+look+look+model+look+last+museum, api.OK)
	for _, text := range []string{works + last + museum, works + model + last + museum, works + model + model + look + last + museum, works + model + look + model + last + museum} {
		right(t, text, api.ErrFew) // models and years may be missing in a text, but not in a catalogue
	}
}

// P10.6: each line is ended by a line feed.
func TestReadEnds(t *testing.T) {
	text := ""
	for i, line := range textLines() {
		for cut := range len(line) {
			wrong(t, text+line[:cut], i+1)
		}
		text += line
	}
	right(t, text, api.OK)
}

// P10.6: a number is written in one way alone, wherever it stands, and has at most four digits and no sign.
func TestReadNumbers(t *testing.T) {
	for _, x := range []struct {
		head, tail string
		line       int
		most       api.Errno
	}{
		{"works ", "\n" + model + look + last + museum, 1, api.ErrValue},
		{works + "model ", "\n" + look + last + museum, 2, api.ErrValue},
		{works + model + "look ", ".3 20=4000\n" + last + museum, 3, api.ErrValue},
		{works + model + "look 1.", " 20=4000\n" + last + museum, 3, api.ErrValue},
		{works + model + "look 1.3 ", "=4000\n" + last + museum, 3, api.ErrOrder},
		{works + model + "look 1.3 20=", "\n" + last + museum, 3, api.OK},
		{works + model + look + "old ", ".0 0?99 1\n" + museum, 4, api.ErrValue},
		{works + model + look + "old 1.", " 0?99 1\n" + museum, 4, api.ErrValue},
		{works + model + look + "old 1.0 0?99 ", "\n" + museum, 4, api.ErrValue},
	} {
		for _, number := range []string{"", "-", "--1", "-0", "-1", "+0", "+1", "00", "01", "001", "0001", "1,0", "1e1", "0x1", "1_0", "١", "a", "#", "?", "10000", "09999", "-9999", "99999999999999999999"} {
			wrong(t, x.head+number+x.tail, x.line)
		}
		right(t, x.head+"9999"+x.tail, x.most)
	}
}

// P10.6: a plate may be any bytes but blanks and line feeds in a text, but not in an instrument; a hyphen is an empty one.
func TestReadPlates(t *testing.T) {
	for plates, want := range map[string]api.Errno{"-": api.OK, "????": api.OK, "0123": api.OK, "4?67": api.OK, "89??": api.OK, "--": api.ErrText, "----": api.ErrText, "?": api.ErrText, "123": api.ErrText, "12345": api.ErrText, "12a4": api.ErrText, "-123": api.ErrText, "1.34": api.ErrText, "1=34": api.ErrText, "\t": api.ErrText, "\r": api.ErrText, "\x00": api.ErrText, "123\x00": api.ErrText, "\xff\xfe\xfd\xfc": api.ErrText, "é1": api.ErrText, "museum": api.ErrText, "١٢": api.ErrText} {
		right(t, works+model+look+"old 1.0 "+plates+" 1\n"+museum, want)
	}
	right(t, works+model+look+"old 1.0 12 9\n"+museum, api.ErrText) // the plate is looked at ahead of the number of changes
	right(t, works+model+look+"old 1.4 12 9\n"+museum, api.ErrValue)
	right(t, "works 3\n"+model+look+"old 1.4 12 9\n"+museum, api.ErrFew)
	wrong(t, works+model+look+"old 1.0 12 9\nx\n", 5)
	wrong(t, works+model+look+"old 1.0 12 9", 4)
}

// P10.6: the text is looked at ahead of the catalogue and the instrument, whose errors have no line.
func TestReadErrorsOfCatalogues(t *testing.T) {
	for text, want := range map[string]api.Errno{
		"works 0\n" + model + look + last + museum:                                      api.ErrValue,
		"works 5\n" + last + museum:                                                     api.ErrValue,
		"works 1\n" + model + look + last + museum:                                      api.ErrMany,
		"works 3\n" + model + look + last + museum:                                      api.ErrFew,
		works + strings.Repeat(model+look, 4) + last + museum:                           api.OK,
		works + strings.Repeat(model+look, 5) + last + museum:                           api.ErrMany,
		works + model + strings.Repeat(look, 4) + last + museum:                         api.OK,
		works + model + strings.Repeat(look, 5) + last + museum:                         api.ErrMany,
		works + "model 1799\n" + look + last + museum:                                   api.ErrValue,
		works + "model 2000\n" + look + last + museum:                                   api.ErrValue,
		works + "model 0\n" + look + last + museum:                                      api.ErrValue,
		works + model + "look 1.4 0=0\n" + last + museum:                                api.ErrValue,
		works + model + "look 0.1 0=0\n" + last + museum:                                api.ErrValue,
		works + model + "look 1 0=0\n" + last + museum:                                  api.ErrFew,
		works + model + "look 1.1.1 0=0\n" + last + museum:                              api.ErrMany,
		works + model + "look " + strings.Repeat("1.", 200) + "1 0=0\n" + last + museum: api.ErrMany,
		works + model + "look 1.1 1=0\n" + last + museum:                                api.ErrOrder,
		works + model + "look 1.1 1=0\nlook 1.4 0=0\n" + last + museum:                  api.ErrValue,
		works + model + look + "old 1 - 0\n" + museum:                                   api.ErrFew,
		works + model + look + "old 1.1.1 - 0\n" + museum:                               api.ErrMany,
		works + model + look + "old 1.4 - 0\n" + museum:                                 api.ErrValue,
		works + model + look + "old 1.1 - 5\n" + museum:                                 api.ErrValue,
		works + model + look + "old 1.1 - 4\n" + museum:                                 api.OK,
	} {
		right(t, text, want)
	}
	wrong(t, "works 0\nmodel 0\nlook 1 9\n", 3)
	wrong(t, "works 0\n"+model+look+last+museum+"x", 6)
}

// P10.6: a text has at most 600 bytes, whatever it is.
func TestReadLong(t *testing.T) {
	fits := works + model + strings.Repeat(look, 32) + last + museum // 8, 11, 544, 15 and 7
	for i, c := range []struct {
		text   string
		length int
		line   int
		want   api.Errno
	}{
		{fits, 585, 0, api.ErrMany},
		{fits + strings.Repeat("x", 15), 600, 37, api.ErrText},
		{fits + strings.Repeat("x", 16), 601, 0, api.ErrLong},
		{works + model + look + "old 1.0 " + strings.Repeat("?", 546) + " 1\n" + museum, 600, 0, api.ErrText},
		{works + model + look + "old 1.0 " + strings.Repeat("?", 547) + " 1\n" + museum, 601, 0, api.ErrLong},
		{works + model + "look " + strings.Repeat("1.", 273) + "1 0=10\n" + last + museum, 599, 0, api.ErrMany},
		{works + model + "look " + strings.Repeat("1.", 273) + "1 0=100\n" + last + museum, 600, 0, api.ErrMany},
		{works + model + "look " + strings.Repeat("1.", 273) + "1 0=1000\n" + last + museum, 601, 0, api.ErrLong},
		{strings.Repeat("\n", 600), 600, 1, api.ErrText},
		{strings.Repeat("\n", 601), 601, 0, api.ErrLong},
		{strings.Repeat("x", 1<<20), 1 << 20, 0, api.ErrLong},
	} {
		if x, o, n, e := plate.Read(c.text); len(c.text) != c.length || n != c.line || e != c.want || !isZero(x, o) {
			t.Error(i, len(c.text), x, o, n, e)
		}
	}
}
