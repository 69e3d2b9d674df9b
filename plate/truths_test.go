package plate_test

import (
	"iter"
	"slices"
	"testing"

	"musette/api"
	"musette/plate"
)

// said is what all truths of an instrument say.
type said struct {
	fits           [][]int
	years, numbers []int
	altered        []int
}

// saidOf returns what truths say.
func saidOf(o api.Old, list []truth) said {
	s := said{altered: make([]int, len(o.Seen))}
	for _, x := range list {
		s.fits = append(s.fits, []int{x.model, x.year})
		s.years = append(s.years, x.year)
		s.numbers = append(s.numbers, x.numbers...)
		for _, feature := range x.changed(o) {
			s.altered[feature]++
		}
	}
	for feature, n := range s.altered {
		s.altered[feature] = verdictOf(n, len(list))
	}
	return s
}

// ends returns the range of some numbers.
func ends(numbers []int) api.Range { return to(slices.Min(numbers), slices.Max(numbers)) }

// checkSaid ends the test if something other is said of an instrument than all its truths say.
func checkSaid(t *testing.T, c api.Catalogue, o api.Old, list []truth) {
	t.Helper()
	if len(list) == 0 {
		checkNothing(t, c, o, api.ErrAgainst)
		return
	}
	s, models := saidOf(o, list), modelsOf(list)
	if !same(must[[][]int](t)(plate.Fits(c, o)), s.fits) || !slices.Equal(must[[]int](t)(plate.Models(c, o)), models) {
		t.Fatal(c, o, s, models)
	}
	model, e := plate.Model(c, o)
	if len(models) > 1 && (model != 0 || e != api.ErrUnsure) || len(models) == 1 && (model != models[0] || e != api.OK) {
		t.Fatal(c, o, model, e)
	}
	if r := must[api.Range](t)(plate.Years(c, o)); r != ends(s.years) {
		t.Fatal(c, o, r, s)
	}
	if r := must[api.Range](t)(plate.Numbers(c, o)); r != ends(s.numbers) {
		t.Fatal(c, o, r, s)
	}
	if verdicts := must[[]int](t)(plate.Altered(c, o)); !slices.Equal(verdicts, s.altered) {
		t.Fatal(c, o, verdicts, s)
	}
	for feature := range c.Features {
		var want []int
		for look := 1; look <= api.MaxValue; look++ {
			if len(left(list, feature, look)) > 0 {
				want = append(want, look)
			}
		}
		if known := must[[]int](t)(plate.Known(c, o, feature)); !slices.Equal(known, want) {
			t.Fatal(c, o, feature, known, want)
		}
	}
}

// checkFalse ends the test if something other is said of changes and of the plate than the chapter says.
func checkFalse(t *testing.T, c api.Catalogue, o api.Old) {
	t.Helper()
	least, due := 0, api.ErrAgainst
	for changed := api.MaxFeatures; changed >= 0; changed-- {
		if there(truths(c, changing(o, changed))) {
			least, due = changed, api.OK
		}
	}
	if n, e := plate.Least(c, o); n != least || e != due {
		t.Fatal(c, o, n, e)
	}
	is, e := plate.Forged(c, o)
	switch {
	case o.Plate == "":
		due = api.ErrNone
	case !there(truths(c, with(o, ""))):
		due = api.ErrAgainst
	default:
		due = api.OK
	}
	if e != due || is != (due == api.OK && !there(truths(c, o))) {
		t.Fatal(c, o, is, e)
	}
}

// there tells whether there is a truth.
func there(list iter.Seq[truth]) bool {
	for range list {
		return true
	}
	return false
}

// P10.1, P10.2, P10.3, P10.8: what is said of an instrument is just what all its truths say, which are found number by number.
func TestAll(t *testing.T) {
	d := dice(1)
	met := map[bool]int{}
	for range 4000 {
		c := d.catalogue()
		o := d.instrument(c)
		list := slices.Collect(truths(c, o))
		met[len(list) > 0]++
		checkSaid(t, c, o, list)
		checkFalse(t, c, o)
	}
	if min(met[true], met[false]) < 500 {
		t.Error("too rare", met)
	}
}

// P10.1, P10.2: a digit of a plate stands at its place, and zeros stand ahead of a number.
func TestPlates(t *testing.T) {
	for i, c := range []struct {
		least, most int
		plate       string
		want        api.Range
		e           api.Errno
	}{
		{0, 9999, "", to(0, 9999), api.OK},
		{0, 9999, "????", to(0, 9999), api.OK},
		{0, 9999, "0???", to(0, 999), api.OK},
		{0, 9999, "???0", to(0, 9990), api.OK},
		{0, 9999, "9??9", to(9009, 9999), api.OK},
		{0, 9999, "?12?", to(120, 9129), api.OK},
		{7, 7, "0007", to(7, 7), api.OK},
		{7, 7, "7???", api.Range{}, api.ErrAgainst},
		{7, 7, "0070", api.Range{}, api.ErrAgainst},
		{7, 7, "7000", api.Range{}, api.ErrAgainst},
		{0, 0, "0000", to(0, 0), api.OK},
		{0, 0, "???1", api.Range{}, api.ErrAgainst},
		{9999, 9999, "9999", to(9999, 9999), api.OK},
		{1999, 2000, "?9??", to(1999, 1999), api.OK},
		{1999, 2000, "?0??", to(2000, 2000), api.OK},
		{1999, 2000, "1??0", api.Range{}, api.ErrAgainst},
		{38, 61, "??5?", to(50, 59), api.OK},
		{38, 61, "???5", to(45, 55), api.OK},
		{38, 61, "??37", api.Range{}, api.ErrAgainst},
		{38, 61, "??38", to(38, 38), api.OK},
		{38, 61, "??61", to(61, 61), api.OK},
		{38, 61, "??62", api.Range{}, api.ErrAgainst},
		{1234, 1234, "1?3?", to(1234, 1234), api.OK},
	} {
		catalogue := of(1, made(1850, year{[]int{1}, c.least, c.most}))
		r, e := plate.Numbers(catalogue, old(c.plate, 0, 0))
		if r != c.want || e != c.e {
			t.Error(i, c.plate, r, e)
		}
		if is, e := plate.Forged(catalogue, old(c.plate, 0, 0)); c.plate != "" && (is != (c.e != api.OK) || e != api.OK) {
			t.Error(i, c.plate, is, e)
		}
	}
}

// P10.1, P10.2: models are in order, whatever their years are; the numbers of years that do not fit are not counted.
func TestOrders(t *testing.T) {
	c := of(1,
		made(1999, year{[]int{2}, 50, 60}, year{[]int{1}, 40, 45}, year{[]int{2}, 5, 9}, year{[]int{3}, 0, 2}),
		made(1800, year{[]int{3}, 9000, 9999}),
		made(1850, year{[]int{2}, 30, 70}))
	for i, x := range []struct {
		o       api.Old
		fits    [][]int
		years   api.Range
		numbers api.Range
	}{
		{old("", 0, 0), [][]int{{0, 1999}, {0, 2000}, {0, 2001}, {0, 2002}, {1, 1800}, {2, 1850}}, to(1800, 2002), to(0, 9999)},
		{old("", 0, 2), [][]int{{0, 1999}, {0, 2001}, {2, 1850}}, to(1850, 2001), to(5, 70)},
		{old("", 1, 2), [][]int{{0, 1999}, {0, 2000}, {0, 2001}, {0, 2002}, {1, 1800}, {2, 1850}}, to(1800, 2002), to(0, 9999)},
		{old("00?5", 0, 0), [][]int{{0, 1999}, {0, 2000}, {0, 2001}, {2, 1850}}, to(1850, 2001), to(5, 65)},
		{old("", 0, 3), [][]int{{0, 2002}, {1, 1800}}, to(1800, 2002), to(0, 9999)},
		{old("0001", 4, 1), [][]int{{0, 2002}}, to(2002, 2002), to(1, 1)},
	} {
		fits, e := plate.Fits(c, x.o)
		years, f := plate.Years(c, x.o)
		numbers, g := plate.Numbers(c, x.o)
		if !same(fits, x.fits) || years != x.years || numbers != x.numbers || e != api.OK || f != api.OK || g != api.OK {
			t.Error(i, fits, years, numbers, e, f, g)
		}
	}
}

// asked returns the lost feature that the chapter says somebody should find out about, and how many truths it leaves at most.
func asked(list []truth, lost []int) (feature, number int) {
	for i, other := range lost {
		most := 0
		for look := 1; look <= api.MaxValue; look++ {
			most = max(most, len(left(list, other, look)))
		}
		if i == 0 || most < number {
			feature, number = other, most
		}
	}
	return feature, number
}

// endless is what is needed if nothing is enough.
const endless = 99

// needed returns about how many of the lost features somebody has to find out at worst, if the best one is always chosen.
func needed(list []truth, lost []int) int {
	if len(modelsOf(list)) == 1 {
		return 0
	}
	best := endless
	for i, feature := range lost {
		others := slices.Delete(slices.Clone(lost), i, i+1)
		worst := 0
		for look := 1; look <= api.MaxValue; look++ {
			if some := left(list, feature, look); len(some) > 0 {
				worst = max(worst, 1+needed(some, others))
			}
		}
		best = min(best, worst)
	}
	return best
}

// checkAsked ends the test if something other is said of what somebody should find out than the chapter says.
func checkAsked(t *testing.T, c api.Catalogue, o api.Old, list []truth) int {
	t.Helper()
	lost := lostOf(o)
	feature, number, e := plate.Next(c, o)
	due, most := asked(list, lost)
	if len(lost) == 0 && e != api.ErrNone || len(lost) > 0 && e != api.OK || feature != due || number != most {
		t.Fatal(c, o, feature, number, e, due, most)
	}
	n, e := plate.Decides(c, o)
	want := needed(list, lost)
	if want >= endless && (n != 0 || e != api.ErrNone) || want < endless && (n != want || e != api.OK) {
		t.Fatal(c, o, n, e, want)
	}
	return want
}

// P10.4, P10.11: what somebody should find out next, and how many features decide, is as a search through all features and looks says.
func TestAsked(t *testing.T) {
	d := dice(2)
	met := map[int]int{}
	for range 6000 {
		c := d.catalogue()
		o := d.instrument(c)
		for feature := range o.Seen {
			if d.often(2) {
				o.Seen[feature] = 0
			}
		}
		if list := slices.Collect(truths(c, o)); len(list) > 0 {
			met[min(checkAsked(t, c, o, list), endless)]++
		}
	}
	for _, n := range []int{0, 1, 2, endless} {
		if met[n] < 20 {
			t.Error("too rare", n, met)
		}
	}
}

// P10.4: sometimes it needs three or four features, and the choice depends on what was found.
func TestDecides(t *testing.T) {
	var models []api.Model
	for _, looks := range [][]int{{1, 1, 1, 1}, {1, 2, 1, 1}, {2, 1, 1, 1}, {2, 1, 2, 1}} {
		models = append(models, made(1900, year{looks, 0, 9}))
	}
	four := of(4, made(1900, year{[]int{1, 1, 1, 1}, 0, 9}), made(1900, year{[]int{2, 1, 1, 1}, 0, 9}, year{[]int{1, 2, 1, 1}, 0, 9}, year{[]int{1, 1, 2, 1}, 0, 9}, year{[]int{1, 1, 1, 2}, 0, 9}))
	for i, x := range []struct {
		c             api.Catalogue
		o             api.Old
		feature, left int
		e             api.Errno
		decides       int
		f             api.Errno
	}{
		{of(4, models...), old("", 0, 0, 0, 0, 0), 0, 2, api.OK, 2, api.OK}, // after 1 the feature 1, after 2 the feature 2
		{of(4, models...), old("", 0, 0, 0, 0, 1), 0, 2, api.OK, 2, api.OK},
		{of(4, models...), old("", 0, 0, 1, 0, 0), 0, 2, api.OK, 2, api.OK},
		{of(4, models...), old("", 0, 0, 0, 1, 0), 0, 2, api.OK, 2, api.OK},
		{of(4, models...), old("", 0, 1, 0, 0, 0), 1, 1, api.OK, 1, api.OK},
		{of(4, models...), old("", 4, 1, 1, 0, 0), 2, 3, api.OK, 0, api.ErrNone}, // three models look alike in what is lost
		{four, old("", 0, 0, 0, 0, 0), 0, 4, api.OK, 4, api.OK},
		{four, old("", 0, 1, 0, 0, 0), 1, 3, api.OK, 3, api.OK},
		{four, old("", 0, 2, 0, 0, 0), 1, 1, api.OK, 0, api.OK}, // the model is sure, but features are lost
		{four, old("", 0, 1, 1, 1, 1), 0, 0, api.ErrNone, 0, api.OK},
		{four, old("", 1, 1, 1, 1, 1), 0, 0, api.ErrNone, 0, api.ErrNone},
		{four, old("", 1, 1, 1, 1, 0), 3, 4, api.OK, 0, api.ErrNone},
		{four, old("", 0, 0, 0, 0, 2), 0, 1, api.OK, 0, api.OK},
	} {
		feature, left, e := plate.Next(x.c, x.o)
		n, f := plate.Decides(x.c, x.o)
		if feature != x.feature || left != x.left || e != x.e || n != x.decides || f != x.f {
			t.Error(i, feature, left, e, n, f)
		}
	}
}

// P10.5: what is found is seen if it looks so in some truth; nothing else of the instrument is other than it was.
func TestFound(t *testing.T) {
	d := dice(3)
	met := map[api.Errno]int{}
	for range 3000 {
		c := d.catalogue()
		o := d.instrument(c)
		list := slices.Collect(truths(c, o))
		feature, value := d.roll(0, c.Features-1), d.roll(0, api.MaxValue+1)
		want := api.OK
		switch {
		case o.Seen[feature] != 0:
			want = api.ErrOrder
		case value < 1 || value > api.MaxValue:
			want = api.ErrValue
		case len(left(list, feature, value)) == 0:
			want = api.ErrAgainst
		}
		met[want]++
		due := api.Old{}
		if want == api.OK {
			due = seeing(o, feature, value)
		}
		if found, e := plate.Found(c, o, feature, value); e != want || !alike(found, due) {
			t.Fatal(c, o, feature, value, found, e, want)
		}
	}
	if min(met[api.OK], met[api.ErrOrder], met[api.ErrValue], met[api.ErrAgainst]) < 100 {
		t.Error("too rare", met)
	}
}

// P10.5, P10.14: twins are all models that have an equal list of looks, in whichever years, in order.
func TestTwins(t *testing.T) {
	d := dice(4)
	met := map[int]int{}
	for range 2000 {
		c := d.catalogue()
		var want [][]int
		for one, m := range c.Models {
			for other := one + 1; other < len(c.Models); other++ {
				if slices.ContainsFunc(m.Looks, func(looks []int) bool {
					return slices.ContainsFunc(c.Models[other].Looks, func(others []int) bool { return slices.Equal(looks, others) })
				}) {
					want = append(want, []int{one, other})
				}
			}
		}
		met[len(want)]++
		if twins, e := plate.Twins(c); !same(twins, want) || e != api.OK {
			t.Fatal(c, twins, e, want)
		}
	}
	if min(met[0], met[1], met[2], met[6]) < 10 {
		t.Error("too rare", met)
	}
}
