package plate_test

import (
	"slices"
	"testing"

	"musette/api"
	"musette/plate"
)

// P10.1: the examples of Check, Valid, Fits, Models and Model.
func TestExamplesFits(t *testing.T) {
	for i, c := range []struct {
		c    api.Catalogue
		want api.Errno
	}{
		{catalogueC(), api.OK},
		{but(func(c *api.Catalogue) { c.Features = 5 }), api.ErrValue},
		{but(func(c *api.Catalogue) { c.Models = nil }), api.ErrFew},
		{but(func(c *api.Catalogue) { c.Models[0].Looks[0][0] = 4 }), api.ErrValue},
	} {
		if e := plate.Check(c.c); e != c.want {
			t.Error(i, e)
		}
	}
	if e, f := plate.Valid(catalogueC(), instrumentO()), plate.Valid(catalogueC(), with(instrumentO(), "2??")); e != api.OK || f != api.ErrText {
		t.Error(e, f)
	}
	for i, c := range []struct {
		o      api.Old
		fits   [][]int
		models []int
		model  int
		e      api.Errno
	}{
		{instrumentO(), [][]int{{0, 1921}, {1, 1921}}, []int{0, 1}, 0, api.ErrUnsure},
		{instrumentP(), [][]int{{0, 1920}, {0, 1921}, {1, 1921}}, []int{0, 1}, 0, api.ErrUnsure},
		{with(instrumentO(), "021?"), [][]int{{0, 1921}}, []int{0}, 0, api.OK},
		{with(instrumentO(), "03??"), [][]int{{1, 1921}}, []int{1}, 1, api.OK},
	} {
		fits, e := plate.Fits(catalogueC(), c.o)
		models, f := plate.Models(catalogueC(), c.o)
		model, g := plate.Model(catalogueC(), c.o)
		if !same(fits, c.fits) || !slices.Equal(models, c.models) || model != c.model || e != api.OK || f != api.OK || g != c.e {
			t.Error(i, fits, models, model, e, f, g)
		}
	}
}

// P10.2, P10.3: the examples of Years, Numbers, Known, Altered, Least and Forged.
func TestExamplesKnown(t *testing.T) {
	c, o, p := catalogueC(), instrumentO(), instrumentP()
	if r, e := plate.Years(c, p); r != to(1920, 1921) || e != api.OK {
		t.Error(r, e)
	}
	for i, x := range []struct {
		o       api.Old
		numbers api.Range
		known   []int
	}{{o, to(200, 299), []int{2}}, {p, to(100, 349), []int{1, 2}}} {
		numbers, e := plate.Numbers(c, x.o)
		known, f := plate.Known(c, x.o, 1)
		if numbers != x.numbers || !slices.Equal(known, x.known) || e != api.OK || f != api.OK {
			t.Error(i, numbers, known, e, f)
		}
	}
	if list, e := plate.Altered(c, changing(p, 1)); !slices.Equal(list, []int{either, never}) || e != api.OK {
		t.Error(list, e)
	}
	for i, x := range []struct {
		o     api.Old
		least int
		e     api.Errno
	}{{o, 0, api.OK}, {with(o, "035?"), 1, api.OK}, {with(o, "04??"), 0, api.ErrAgainst}} {
		if least, e := plate.Least(c, x.o); least != x.least || e != x.e {
			t.Error(i, least, e)
		}
	}
	for i, x := range []struct {
		o      api.Old
		forged bool
		e      api.Errno
	}{{o, false, api.OK}, {with(o, "035?"), true, api.OK}, {p, false, api.ErrNone}} {
		if forged, e := plate.Forged(c, x.o); forged != x.forged || e != x.e {
			t.Error(i, forged, e)
		}
	}
}

// P10.4, P10.5, P10.6: the examples of Next, Decides, Found, Twins and Write.
func TestExamplesNext(t *testing.T) {
	c, o, p := catalogueC(), instrumentO(), instrumentP()
	if feature, left, e := plate.Next(c, p); feature != 1 || left != 2 || e != api.OK {
		t.Error(feature, left, e)
	}
	if n, e := plate.Decides(c, p); n != 0 || e != api.ErrNone {
		t.Error(n, e)
	}
	if n, e := plate.Decides(c, with(o, "021?")); n != 0 || e != api.OK {
		t.Error(n, e)
	}
	for i, x := range []struct {
		feature, value int
		want           api.Old
		e              api.Errno
	}{{1, 1, seeing(p, 1, 1), api.OK}, {1, 3, api.Old{}, api.ErrAgainst}, {0, 1, api.Old{}, api.ErrOrder}} {
		if found, e := plate.Found(c, p, x.feature, x.value); !alike(found, x.want) || e != x.e {
			t.Error(i, found, e)
		}
	}
	if twins, e := plate.Twins(c); !same(twins, [][]int{{0, 1}}) || e != api.OK {
		t.Error(twins, e)
	}
	alone := but(func(c *api.Catalogue) { c.Models = c.Models[1:] })
	if text, e := plate.Write(alone, p); text != "works 2\nmodel 1921\nlook 1.2 250=349\nlook 2.2 350=399\nold 1.0 - 0\nmuseum\n" || e != api.OK {
		t.Error(text, e)
	}
}
