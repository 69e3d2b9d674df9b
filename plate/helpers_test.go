package plate_test

import (
	"fmt"
	"iter"
	"slices"
	"testing"

	"musette/api"
)

const (
	always = api.Always
	never  = api.Never
	either = api.Either
)

// to returns a range; made returns a model, each year as its looks and the ends of its numbers; old returns an instrument.
func to(least, most int) api.Range { return api.Range{Min: least, Max: most} }

type year struct {
	looks       []int
	least, most int
}

func made(from int, years ...year) api.Model {
	m := api.Model{First: from}
	for _, y := range years {
		m.Looks = append(m.Looks, y.looks)
		m.Numbers = append(m.Numbers, to(y.least, y.most))
	}
	return m
}

func old(plate string, changed int, seen ...int) api.Old {
	return api.Old{Seen: seen, Plate: plate, Changed: changed}
}

// of returns a catalogue.
func of(features int, models ...api.Model) api.Catalogue {
	return api.Catalogue{Features: features, Models: models}
}

// catalogueC is the catalogue of the chapter's examples, instrumentO and instrumentP are its instruments.
func catalogueC() api.Catalogue {
	return of(2,
		made(1920, year{[]int{1, 1}, 100, 199}, year{[]int{1, 2}, 200, 299}),
		made(1921, year{[]int{1, 2}, 250, 349}, year{[]int{2, 2}, 350, 399}))
}

func instrumentO() api.Old { return old("02??", 0, 1, 0) }

func instrumentP() api.Old { return old("", 0, 1, 0) }

// but returns the catalogue C after a change; after returns any catalogue after one.
func but(change func(c *api.Catalogue)) api.Catalogue { return after(catalogueC(), change) }

func after(c api.Catalogue, change func(c *api.Catalogue)) api.Catalogue {
	c = copyOf(c)
	change(&c)
	return c
}

// with returns an instrument with another plate, changing one with another number of changed features, seeing one with another look of a feature.
func with(o api.Old, plate string) api.Old {
	o.Plate = plate
	return o
}

func changing(o api.Old, changed int) api.Old {
	o.Changed = changed
	return o
}

func seeing(o api.Old, feature, look int) api.Old {
	o.Seen = slices.Clone(o.Seen)
	o.Seen[feature] = look
	return o
}

// copyOf returns a catalogue that shares no memory with the first one.
func copyOf(c api.Catalogue) api.Catalogue {
	c.Models = slices.Clone(c.Models)
	for i := range c.Models {
		m := &c.Models[i]
		m.Looks, m.Numbers = slices.Clone(m.Looks), slices.Clone(m.Numbers)
		for at := range m.Looks {
			m.Looks[at] = slices.Clone(m.Looks[at])
		}
	}
	return c
}

// equal tells whether two catalogues are the same, alike whether two instruments are.
func equal(a, b api.Catalogue) bool {
	return a.Features == b.Features && slices.EqualFunc(a.Models, b.Models, func(a, b api.Model) bool {
		return a.First == b.First && slices.EqualFunc(a.Looks, b.Looks, slices.Equal) && slices.Equal(a.Numbers, b.Numbers)
	})
}

func alike(a, b api.Old) bool {
	return slices.Equal(a.Seen, b.Seen) && a.Plate == b.Plate && a.Changed == b.Changed
}

// isZero tells whether a catalogue and an instrument are zero values, but for empty slices.
func isZero(c api.Catalogue, o api.Old) bool {
	return equal(c, api.Catalogue{}) && alike(o, api.Old{})
}

// same tells whether two lists of lists are equal.
func same(a, b [][]int) bool { return slices.EqualFunc(a, b, slices.Equal) }

// must returns what takes a result without an error, and ends the test otherwise.
func must[T any](t *testing.T) func(result T, e api.Errno) T {
	return func(result T, e api.Errno) T {
		t.Helper()
		if e != api.OK {
			t.Fatal(result, e)
		}
		return result
	}
}

// truth is a model and a year, what it looked like then, and the numbers that the plate can have had.
type truth struct {
	model, year int
	looks       []int
	numbers     []int
}

// truths hands out all truths of an instrument, in the words of the chapter.
func truths(c api.Catalogue, o api.Old) iter.Seq[truth] {
	return func(yield func(truth) bool) {
		for model, m := range c.Models {
			for at, looks := range m.Looks {
				x := truth{model: model, year: m.First + at, looks: looks}
				for n := m.Numbers[at].Min; n <= m.Numbers[at].Max; n++ {
					if reads(o.Plate, n) {
						x.numbers = append(x.numbers, n)
					}
				}
				if len(x.numbers) > 0 && len(x.changed(o)) <= o.Changed && !yield(x) {
					return
				}
			}
		}
	}
}

// reads tells whether a plate is empty, or a number that is written with four digits has the same digit wherever it has one.
func reads(plate string, n int) bool {
	if plate == "" {
		return true
	}
	written := fmt.Sprintf("%04d", n)
	for i := range 4 {
		if plate[i] != '?' && plate[i] != written[i] {
			return false
		}
	}
	return true
}

// changed returns which features are seen, and are not as they look in the truth.
func (x truth) changed(o api.Old) []int {
	var changed []int
	for feature, look := range x.looks {
		if o.Seen[feature] != 0 && o.Seen[feature] != look {
			changed = append(changed, feature)
		}
	}
	return changed
}

// lostOf returns all lost features.
func lostOf(o api.Old) []int {
	var lost []int
	for feature, look := range o.Seen {
		if look == 0 {
			lost = append(lost, feature)
		}
	}
	return lost
}

// left returns the truths in which a feature looks so.
func left(list []truth, feature, look int) []truth {
	var some []truth
	for _, x := range list {
		if x.looks[feature] == look {
			some = append(some, x)
		}
	}
	return some
}

// modelsOf returns all models of truths.
func modelsOf(list []truth) []int {
	var models []int
	for _, x := range list {
		models = append(models, x.model)
	}
	return slices.Compact(models)
}

// dice gives numbers that look random but are the same in each run.
type dice uint64

// roll returns a number from least to most.
func (d *dice) roll(least, most int) int {
	*d = *d*6364136223846793005 + 1442695040888963407
	return least + int(uint64(*d)>>33)%(most-least+1)
}

// often tells once in so many times that something is so.
func (d *dice) often(times int) bool { return d.roll(1, times) == 1 }

// catalogue returns a catalogue whose models are more or less alike.
func (d *dice) catalogue() api.Catalogue {
	c := of(d.roll(1, api.MaxFeatures))
	values, wide := d.roll(1, api.MaxValue), []int{3, 30, 300, 3000}[d.roll(0, 3)]
	from, base := []int{api.MinYear, 1900, api.MaxYear - 3}[d.roll(0, 2)], []int{0, 90, 1000, 9000}[d.roll(0, 3)]
	var before []int
	for range d.roll(1, api.MaxModels) {
		m := made(from + d.roll(0, 3))
		for range d.roll(1, api.MaxMade) {
			looks := d.looks(before, c.Features, values)
			least := min(base+d.roll(0, wide), api.MaxPlate)
			m.Looks = append(m.Looks, looks)
			m.Numbers = append(m.Numbers, to(least, min(least+d.roll(0, wide), api.MaxPlate)))
			before = looks
		}
		c.Models = append(c.Models, m)
	}
	return c
}

// looks returns the looks of so many features, which are often almost as they were before.
func (d *dice) looks(before []int, features, values int) []int {
	looks := make([]int, features)
	for feature := range looks {
		looks[feature] = d.roll(1, values)
		if before != nil && !d.often(3) {
			looks[feature] = before[feature]
		}
	}
	return looks
}

// story returns an instrument of a catalogue, what it truly is, its true number, and how many of the features that are seen were changed.
func (d *dice) story(c api.Catalogue) (o api.Old, x truth, number, changes int) {
	model := d.roll(0, len(c.Models)-1)
	m := c.Models[model]
	at := d.roll(0, len(m.Looks)-1)
	x = truth{model: model, year: m.First + at, looks: m.Looks[at]}
	number = d.roll(m.Numbers[at].Min, m.Numbers[at].Max)
	o.Seen = slices.Clone(x.looks)
	for feature := range o.Seen {
		switch d.roll(1, 5) {
		case 1:
			o.Seen[feature] = d.roll(1, api.MaxValue)
		case 2, 3:
			o.Seen[feature] = 0
		}
	}
	changes = len(x.changed(o))
	o.Changed = changes
	if d.often(3) {
		o.Changed = d.roll(changes, api.MaxFeatures)
	}
	if !d.often(4) {
		o.Plate = d.worn(fmt.Sprintf("%04d", number))
	}
	return o, x, number, changes
}

// worn returns a plate of which some digits cannot be read any more.
func (d *dice) worn(plate string) string {
	worn := ""
	for _, digit := range plate {
		if d.often(2) {
			digit = '?'
		}
		worn += string(digit)
	}
	return worn
}

// instrument returns an instrument that need not be one of a catalogue.
func (d *dice) instrument(c api.Catalogue) api.Old {
	o, _, _, _ := d.story(c)
	if d.often(3) {
		o = seeing(o, d.roll(0, c.Features-1), d.roll(0, api.MaxValue))
	}
	if o.Plate != "" && d.often(3) {
		at := d.roll(0, 3)
		o.Plate = o.Plate[:at] + string(rune('0'+d.roll(0, 9))) + o.Plate[at+1:]
	}
	if d.often(4) {
		o.Changed = d.roll(0, api.MaxFeatures)
	}
	return o
}

// plain returns an instrument of which nothing was changed, so that what is found out is what is seen.
func (d *dice) plain(c api.Catalogue) api.Old {
	o, x, _, _ := d.story(c)
	o.Changed = 0
	for feature, look := range o.Seen {
		if look != 0 {
			o.Seen[feature] = x.looks[feature]
		}
	}
	return o
}

// verdictOf returns the verdict on what is so in so many of all truths.
func verdictOf(so, all int) int {
	switch so {
	case all:
		return always
	case 0:
		return never
	}
	return either
}

// inside tells whether a number is in a range.
func inside(n int, r api.Range) bool { return r.Min <= n && n <= r.Max }

// within tells whether each truth of one list is in another one.
func within(fits, others [][]int) bool {
	for _, x := range fits {
		if !slices.ContainsFunc(others, func(y []int) bool { return slices.Equal(x, y) }) {
			return false
		}
	}
	return true
}
