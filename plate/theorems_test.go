package plate_test

import (
	"fmt"
	"slices"
	"testing"

	"musette/api"
	"musette/plate"
)

// tells tells whether a verdict may be given if something is so in a truth, or is not.
func tells(verdict int, so bool) bool {
	if so {
		return verdict != never
	}
	return verdict != always
}

// fitsOf returns all truths of an instrument, of which there may be none.
func fitsOf(t *testing.T, c api.Catalogue, o api.Old) [][]int {
	t.Helper()
	fits, e := plate.Fits(c, o)
	if e != api.OK && e != api.ErrAgainst {
		t.Fatal(c, o, e)
	}
	return fits
}

// P10.7: whatever an instrument truly is, all that is said allows it.
func TestTrue(t *testing.T) {
	d := dice(11)
	met := map[int]int{}
	for range 4000 {
		c := d.catalogue()
		o, x, number, changes := d.story(c)
		met[changes]++
		if !within([][]int{{x.model, x.year}}, must[[][]int](t)(plate.Fits(c, o))) || !slices.Contains(must[[]int](t)(plate.Models(c, o)), x.model) {
			t.Fatal(c, o, x)
		}
		if !inside(x.year, must[api.Range](t)(plate.Years(c, o))) || !inside(number, must[api.Range](t)(plate.Numbers(c, o))) {
			t.Fatal(c, o, x, number)
		}
		if model, e := plate.Model(c, o); e == api.OK && model != x.model {
			t.Fatal(c, o, x, model)
		}
		altered := must[[]int](t)(plate.Altered(c, o))
		for feature, look := range x.looks {
			if !slices.Contains(must[[]int](t)(plate.Known(c, o, feature)), look) || !tells(altered[feature], slices.Contains(x.changed(o), feature)) {
				t.Fatal(c, o, x, feature, altered)
			}
		}
		if least := must[int](t)(plate.Least(c, o)); least > changes {
			t.Fatal(c, o, x, least, changes)
		}
		is, e := plate.Forged(c, o)
		if is || e != no(o.Plate == "", api.ErrNone) {
			t.Fatal(c, o, x, is, e)
		}
	}
	if min(met[0], met[1], met[2]) < 20 {
		t.Error("too rare", met)
	}
}

// P10.9: with the least number of changes there is a truth, with one less there is none, and with more of them no truth is lost.
func TestLeast(t *testing.T) {
	d := dice(12)
	met := map[int]int{}
	for range 2000 {
		c := d.catalogue()
		o := d.instrument(c)
		least, e := plate.Least(c, o)
		var before [][]int
		for changed := range api.MaxFeatures + 1 {
			fits := fitsOf(t, c, changing(o, changed))
			if (len(fits) > 0) != (e == api.OK && changed >= least) || !within(before, fits) {
				t.Fatal(c, o, least, e, changed, fits, before)
			}
			if other, f := plate.Least(c, changing(o, changed)); other != least || f != e {
				t.Fatal(c, o, changed, least, other, e, f)
			}
			before = fits
		}
		met[least]++
	}
	if min(met[0], met[1], met[2]) < 20 {
		t.Error("too rare", met)
	}
}

// looksIn returns the looks of a truth as the catalogue has them.
func looksIn(c api.Catalogue, fit []int) []int {
	m := c.Models[fit[0]]
	return m.Looks[fit[1]-m.First]
}

// leavesAtMost returns the greatest number of truths that a look of a feature leaves.
func leavesAtMost(c api.Catalogue, fits [][]int, feature int) int {
	var leaves [api.MaxValue + 1]int
	for _, fit := range fits {
		leaves[looksIn(c, fit)[feature]]++
	}
	return slices.Max(leaves[:])
}

// P10.10: whatever is found, no more is left than Next says, some look leaves as many, and no other lost feature is better.
func TestNext(t *testing.T) {
	d := dice(13)
	met := 0
	for range 3000 {
		c := d.catalogue()
		o := d.instrument(c)
		fits := fitsOf(t, c, o)
		if len(fits) == 0 || len(lostOf(o)) == 0 {
			continue
		}
		met++
		feature, number, e := plate.Next(c, o)
		if e != api.OK || leavesAtMost(c, fits, feature) != number {
			t.Fatal(c, o, feature, number, e)
		}
		for _, other := range lostOf(o) {
			if n := leavesAtMost(c, fits, other); n < number || n == number && other < feature {
				t.Fatal(c, o, feature, number, other, n)
			}
		}
	}
	if met < 500 {
		t.Error("too rare", met)
	}
}

// P10.10: if nothing was changed, an instrument of which a look was found has just the truths that it leaves.
func TestFoundLeaves(t *testing.T) {
	d := dice(14)
	met := 0
	for range 2000 {
		c := d.catalogue()
		o := d.plain(c)
		feature, number, e := plate.Next(c, o)
		if e == api.ErrNone {
			continue
		}
		met++
		most := 0
		for _, look := range must[[]int](t)(plate.Known(c, o, feature)) {
			fits := must[[][]int](t)(plate.Fits(c, must[api.Old](t)(plate.Found(c, o, feature, look))))
			for _, fit := range fits {
				if looksIn(c, fit)[feature] != look {
					t.Fatal(c, o, feature, look, fits)
				}
			}
			most = max(most, len(fits))
		}
		if most != number {
			t.Fatal(c, o, feature, number, most)
		}
	}
	if met < 500 {
		t.Error("too rare", met)
	}
}

// worstAfter returns how many features decide at worst after one more is found out; endless if they do not.
func worstAfter(t *testing.T, c api.Catalogue, o api.Old, feature int) int {
	t.Helper()
	worst := 0
	for _, look := range must[[]int](t)(plate.Known(c, o, feature)) {
		n, e := plate.Decides(c, must[api.Old](t)(plate.Found(c, o, feature, look)))
		if e == api.ErrNone {
			return endless
		}
		worst = max(worst, n)
	}
	return worst
}

// P10.11: if nothing has to be found out, the model is sure; otherwise one lost feature always leaves one less, and none leaves fewer.
func TestDecided(t *testing.T) {
	d := dice(15)
	met := map[int]int{}
	for range 3000 {
		c := d.catalogue()
		o := d.plain(c)
		if d.often(2) {
			clear(o.Seen)
		}
		n, e := plate.Decides(c, o)
		if e == api.ErrNone {
			n = endless
		}
		met[n]++
		if _, e := plate.Model(c, o); (n == 0) != (e == api.OK) {
			t.Fatal(c, o, n, e)
		}
		if n == 0 {
			continue
		}
		best := endless
		for _, feature := range lostOf(o) {
			best = min(best, worstAfter(t, c, o, feature)+1)
		}
		if best != n {
			t.Fatal(c, o, n, best)
		}
	}
	if min(met[0], met[1], met[2], met[endless]) < 20 {
		t.Error("too rare", met)
	}
}

// P10.12: a plate is forged just if there is a truth without it, and none with it; less of it never makes it forged.
func TestForged(t *testing.T) {
	d := dice(16)
	met := map[bool]int{}
	for range 3000 {
		c := d.catalogue()
		o := d.instrument(c)
		is, e := plate.Forged(c, o)
		if o.Plate == "" {
			continue
		}
		without := len(fitsOf(t, c, with(o, ""))) > 0
		if e != no(!without, api.ErrAgainst) || is != (without && len(fitsOf(t, c, o)) == 0) {
			t.Fatal(c, o, is, e)
		}
		met[is]++
		for at := range o.Plate {
			less := with(o, o.Plate[:at]+"?"+o.Plate[at+1:])
			if other, f := plate.Forged(c, less); f != e || other && !is {
				t.Fatal(c, o, less, is, other, e, f)
			}
		}
		if is, _ := plate.Forged(c, with(o, "????")); is {
			t.Fatal(c, o, "an unread plate is forged")
		}
	}
	if min(met[true], met[false]) < 100 {
		t.Error("too rare", met)
	}
}

// P10.13: with a digit of the plate more, a feature that is seen, or fewer changes, no truth is added.
func TestNarrowed(t *testing.T) {
	d := dice(17)
	for range 1500 {
		c := d.catalogue()
		o := d.instrument(c)
		fits := fitsOf(t, c, o)
		for at := range o.Plate {
			if o.Plate[at] != '?' {
				continue
			}
			for digit := range 10 {
				if more := with(o, o.Plate[:at]+fmt.Sprint(digit)+o.Plate[at+1:]); !within(fitsOf(t, c, more), fits) {
					t.Fatal(c, o, more, fits)
				}
			}
		}
		if o.Plate == "" && !same(fitsOf(t, c, with(o, "????")), fits) {
			t.Fatal(c, o, fits)
		}
		for _, feature := range lostOf(o) {
			for look := 1; look <= api.MaxValue; look++ {
				if more := seeing(o, feature, look); !within(fitsOf(t, c, more), fits) {
					t.Fatal(c, o, more, fits)
				}
			}
		}
		if o.Changed > 0 && !within(fitsOf(t, c, changing(o, o.Changed-1)), fits) {
			t.Fatal(c, o, fits)
		}
	}
}

// P10.14: an instrument that is seen whole and unchanged, without a plate, is one of several models only if they are twins, and twins have such an instrument.
func TestTwinsAreAlike(t *testing.T) {
	d := dice(18)
	met := 0
	for range 1500 {
		c := d.catalogue()
		twins := must[[][]int](t)(plate.Twins(c))
		var found [][]int
		for _, m := range c.Models {
			for _, looks := range m.Looks {
				models := must[[]int](t)(plate.Models(c, old("", 0, looks...)))
				for i, one := range models {
					for _, other := range models[i+1:] {
						found = append(found, []int{one, other})
					}
				}
			}
		}
		if !within(found, twins) || !within(twins, found) {
			t.Fatal(c, twins, found)
		}
		met += len(found)
	}
	if met < 500 {
		t.Error("too rare", met)
	}
}

// shuffled returns all numbers below one in any order.
func (d *dice) shuffled(below int) []int {
	var list []int
	for n := range below {
		list = append(list, n)
	}
	for i := range list {
		j := d.roll(i, below-1)
		list[i], list[j] = list[j], list[i]
	}
	return list
}

// moved returns a list whose items are at other places; renamed one whose first numbers have other names, in order.
func moved[T any](list []T, to []int) []T {
	other := make([]T, len(list))
	for i, item := range list {
		other[to[i]] = item
	}
	return other
}

func renamed(list [][]int, names []int) [][]int {
	var others [][]int
	for _, item := range list {
		item = slices.Clone(item)
		item[0] = names[item[0]]
		others = append(others, item)
	}
	slices.SortFunc(others, slices.Compare[[]int])
	return others
}

// checkSame ends the test unless the same is said of two instruments of which models and features have other numbers.
func checkSame(t *testing.T, c, k api.Catalogue, o, p api.Old, models, features []int) {
	t.Helper()
	fits := fitsOf(t, k, p)
	if !same(renamed(fitsOf(t, c, o), models), fits) {
		t.Fatal(c, o, k, p, fits)
	}
	years, e1 := plate.Years(c, o)
	numbers, e2 := plate.Numbers(c, o)
	least, e3 := plate.Least(c, o)
	forged, e4 := plate.Forged(c, o)
	_, number, e5 := plate.Next(c, o)
	decides, e6 := plate.Decides(c, o)
	altered, e7 := plate.Altered(c, o)
	if e7 == api.OK {
		altered = moved(altered, features)
	}
	years2, f1 := plate.Years(k, p)
	numbers2, f2 := plate.Numbers(k, p)
	least2, f3 := plate.Least(k, p)
	forged2, f4 := plate.Forged(k, p)
	_, number2, f5 := plate.Next(k, p)
	decides2, f6 := plate.Decides(k, p)
	altered2, f7 := plate.Altered(k, p)
	if e, f := []api.Errno{e1, e2, e3, e4, e5, e6, e7}, []api.Errno{f1, f2, f3, f4, f5, f6, f7}; !slices.Equal(e, f) {
		t.Fatal(c, o, k, p, e, f)
	}
	if years != years2 || numbers != numbers2 || least != least2 || forged != forged2 || number != number2 || decides != decides2 || !slices.Equal(altered, altered2) {
		t.Fatal(c, o, k, p, years, years2, numbers, numbers2, least, least2, forged, forged2, number, number2, decides, decides2, altered, altered2)
	}
	for feature := range c.Features {
		known, e := plate.Known(c, o, feature)
		if known2, f := plate.Known(k, p, features[feature]); !slices.Equal(known, known2) || e != f {
			t.Fatal(c, o, k, p, feature, known, known2, e, f)
		}
	}
}

// P10.15: if models, or features, come in another order, the same is said of them.
func TestOrdered(t *testing.T) {
	d := dice(19)
	for range 2000 {
		c := d.catalogue()
		o := d.instrument(c)
		models, features := d.shuffled(len(c.Models)), d.shuffled(c.Features)
		k := after(c, func(k *api.Catalogue) {
			k.Models = moved(k.Models, models)
			for _, m := range k.Models {
				for at, looks := range m.Looks {
					m.Looks[at] = moved(looks, features)
				}
			}
		})
		p := o
		p.Seen = moved(o.Seen, features)
		checkSame(t, c, k, o, p, models, features)
		twins := must[[][]int](t)(plate.Twins(c))
		for _, pair := range twins {
			one, other := models[pair[0]], models[pair[1]]
			if !within([][]int{{min(one, other), max(one, other)}}, must[[][]int](t)(plate.Twins(k))) {
				t.Fatal(c, k, pair)
			}
		}
		if len(must[[][]int](t)(plate.Twins(k))) != len(twins) {
			t.Fatal(c, k, twins)
		}
	}
}

// P10.16: what is written is read as it was, and what is read is written as it was.
func TestTextsStay(t *testing.T) {
	d := dice(20)
	const letters = "0123456789.=-?\nworkmdelsu "
	read := 0
	for range 2000 {
		c := d.catalogue()
		o := d.instrument(c)
		text, e := plate.Write(c, o)
		if e != api.OK || len(text) > api.MaxMuseum {
			t.Fatal(c, o, text, e)
		}
		if back, other, n, e := plate.Read(text); !equal(back, c) || !alike(other, o) || n != 0 || e != api.OK {
			t.Fatal(text, back, other, n, e)
		}
		for range 20 { // one letter is another one
			at, letter := d.roll(0, len(text)-1), d.roll(0, len(letters)-1)
			changed := text[:at] + letters[letter:letter+1] + text[at+1:]
			back, other, n, e := plate.Read(changed)
			if n > 0 && e != api.ErrText || e != api.OK && !isZero(back, other) {
				t.Fatal(changed, back, other, n, e)
			}
			if e == api.OK {
				read++
				if again, e := plate.Write(back, other); again != changed || e != api.OK {
					t.Fatal(changed, again, e)
				}
			}
		}
	}
	if read < 1000 {
		t.Error("too few texts were read", read)
	}
}
