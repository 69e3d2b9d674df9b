package bench_test

import (
	"slices"
	"testing"

	"musette/api"
	"musette/bench"
)

// examplePlan is the plan of the chapter's examples.
func examplePlan() []int { return []int{0, 1, 1, 2, 0} }

// P7.1: the examples of Check, Load and Bound.
func TestExamplesCheck(t *testing.T) {
	for i, c := range []struct {
		s    api.Shop
		want api.Errno
	}{
		{shopS(), api.OK},
		{but(func(s *api.Shop) { s.Benches = 0 }), api.ErrValue},
		{but(func(s *api.Shop) { s.Tasks[0].Works[0].Bench = 2 }), api.ErrUnknown},
		{but(func(s *api.Shop) { s.Tasks[0].Works[0].Hours = to(3, 2) }), api.ErrOrder},
		{but(func(s *api.Shop) { s.Tasks[1].Works = nil }), api.ErrFew},
	} {
		if e := bench.Check(c.s); e != c.want {
			t.Error(i, e)
		}
	}
	if l, e := bench.Load(shopS()); !slices.Equal(l, []api.Range{to(5, 8), to(7, 9)}) || e != api.OK {
		t.Error(l, e)
	}
	if n, e := bench.Bound(shopS()); n != 9 || e != api.OK {
		t.Error(n, e)
	}
}

// P7.2: the examples of Run, Ends, Last and Late.
func TestExamplesRun(t *testing.T) {
	slots, e := bench.Run(shopS(), examplePlan())
	if !slices.Equal(slots, []api.Slot{
		{Task: 0, Work: 0, Bench: 0, Begin: to(0, 0), End: to(2, 3)},
		{Task: 1, Work: 0, Bench: 1, Begin: to(1, 1), End: to(3, 3)},
		{Task: 1, Work: 1, Bench: 0, Begin: to(3, 3), End: to(6, 8)},
		{Task: 2, Work: 0, Bench: 1, Begin: to(3, 3), End: to(4, 6)},
		{Task: 0, Work: 1, Bench: 1, Begin: to(4, 6), End: to(8, 10)},
	}) || e != api.OK {
		t.Error(slots, e)
	}
	if l, e := bench.Ends(shopS(), examplePlan()); !slices.Equal(l, []api.Range{to(8, 10), to(6, 8), to(4, 6)}) || e != api.OK {
		t.Error(l, e)
	}
	if r, e := bench.Last(shopS(), examplePlan()); r != to(8, 10) || e != api.OK {
		t.Error(r, e)
	}
	if l, e := bench.Late(shopS(), examplePlan()); !slices.Equal(l, []int{either, either, never}) || e != api.OK {
		t.Error(l, e)
	}
	for i, c := range []struct {
		plan []int
		want api.Errno
	}{{[]int{0, 1, 1, 2}, api.ErrFew}, {[]int{0, 1, 1, 2, 0, 0}, api.ErrMany}, {[]int{0, 1, 1, 3}, api.ErrUnknown}} {
		if l, e := bench.Run(shopS(), c.plan); len(l) > 0 || e != c.want {
			t.Error(i, l, e)
		}
	}
}

// P7.3: the examples of Slack and Critical.
func TestExamplesSlack(t *testing.T) {
	if l, e := bench.Slack(shopS(), examplePlan()); !slices.Equal(l, []int{2, 0, 2, 0, 0}) || e != api.OK {
		t.Error(l, e)
	}
	if l, e := bench.Critical(shopS(), examplePlan()); !slices.Equal(l, []int{1, 3, 4}) || e != api.OK {
		t.Error(l, e)
	}
}

// P7.4, P7.5: the examples of Best, Prompt and PutIn.
func TestExamplesBest(t *testing.T) {
	if p, n, e := bench.Best(shopS()); !slices.Equal(p, []int{0, 1, 0, 1, 2}) || n != 10 || e != api.OK {
		t.Error(p, n, e)
	}
	if p, n, e := bench.Prompt(shopS()); !slices.Equal(p, []int{0, 0, 1, 1, 2}) || n != 1 || e != api.OK {
		t.Error(p, n, e)
	}
	two := but(func(s *api.Shop) { s.Tasks = s.Tasks[:2] })
	if p, n, e := bench.PutIn(two, []int{0, 1, 1, 0}, shopS().Tasks[2]); !slices.Equal(p, []int{0, 1, 1, 0, 2}) || n != 10 || e != api.OK {
		t.Error(p, n, e)
	}
}

// P7.6, P7.7: the examples of Clash and Write.
func TestExamplesClash(t *testing.T) {
	for i, c := range []struct {
		begins      [][]int
		order, work int
		e           api.Errno
	}{
		{[][]int{{0, 3}, {1, 3}, {7}}, 0, 0, api.ErrNone},
		{[][]int{{0, 2}, {1, 3}, {7}}, 0, 1, api.OK},
		{[][]int{{0, 3}, {0, 3}, {7}}, 1, 0, api.OK},
	} {
		if o, w, e := bench.Clash(shopS(), c.begins); o != c.order || w != c.work || e != c.e {
			t.Error(i, o, w, e)
		}
	}
	one := but(func(s *api.Shop) { s.Tasks = s.Tasks[2:] })
	if text, e := bench.Write(one); text != "benches 2\norder 0 20 1:1-3\nclosed\n" || e != api.OK {
		t.Error(text, e)
	}
}
