package wax_test

import (
	"slices"
	"testing"

	"musette/api"
	"musette/wax"
)

// P6.4, P6.9, P6.11: Unseen is the greatest number of weeks in any truth, and Inspect the first of the shortest lists of all.
func TestLooksAll(t *testing.T) {
	d := dice(2)
	lengths, waited := map[int]int{}, map[int]int{}
	for range 6000 {
		s := d.season(800)
		truths := truthsOf(s)
		if len(truths) == 0 {
			continue
		}
		lists := subsets(len(s.Heats))
		var unseen []int
		for _, list := range lists {
			longest := 0
			for _, x := range truths {
				longest = max(longest, unseenIn(x, list))
			}
			unseen = append(unseen, longest)
			if n, e := wax.Unseen(s, list); n != longest || e != api.OK {
				t.Fatal(s, list, n, e, longest)
			}
			waited[longest]++
		}
		before := len(s.Heats)
		for wait := range api.MaxWeeks + 1 {
			want := lists[slices.IndexFunc(unseen, func(n int) bool { return n <= wait })]
			l, e := wax.Inspect(s, wait)
			if !slices.Equal(l, want) || e != api.OK {
				t.Fatal(s, wait, l, e, want)
			}
			if len(l) > before {
				t.Fatal("who waits longer looks more often", s, wait, l)
			}
			before = len(l)
			lengths[len(l)]++
		}
	}
	if min(lengths[0], lengths[1], lengths[2], lengths[3]) < 50 || min(waited[0], waited[1], waited[2], waited[3], waited[4], waited[5]) < 50 {
		t.Error("too rare", lengths, waited)
	}
}

// P6.4, P6.11: a failure in the last week is seen in it or not at all, and one that cannot be is not looked for.
func TestLooksEdges(t *testing.T) {
	rare := known([]api.Joint{{Kind: api.JointWax, High: to(50, 52), Low: to(0, 0), Weeks: to(1, 1), Life: to(9, 9)}}, 50, 40, 51, 40, 52, 40)
	for i, c := range []struct {
		s    api.Season
		wait int
		want []int
	}{
		{known(nil, 1, 1), 0, nil},
		{known([]api.Joint{waxen(20, 0, 1, 9)}, 1, 1), 0, nil},
		{known([]api.Joint{waxen(20, 0, 1, 9)}, 1, 20), 0, []int{1}},
		{known([]api.Joint{waxen(20, 0, 1, 9)}, 1, 20), 1, nil},
		{known([]api.Joint{waxen(20, 0, 1, 9)}, 20, 1), 1, []int{0}},
		{known([]api.Joint{waxen(20, 0, 1, 9)}, 20, 1), 2, nil},
		{rare, 0, []int{0, 2, 4}}, {rare, 1, []int{0, 2, 4}}, {rare, 2, []int{2}}, {rare, 3, []int{2}}, {rare, 4, []int{0}}, {rare, 5, []int{0}}, {rare, 6, nil},
	} {
		if l, e := wax.Inspect(c.s, c.wait); !slices.Equal(l, c.want) || e != api.OK {
			t.Error(i, l, e)
		}
	}
	for _, c := range []struct {
		weeks []int
		want  int
	}{{nil, 6}, {[]int{5}, 5}, {[]int{0, 5}, 3}, {[]int{0, 2}, 2}, {[]int{1, 3}, 2}, {[]int{1, 3, 5}, 1}, {[]int{0, 2, 4}, 0}, {[]int{0, 1, 2, 3, 4, 5}, 0}} {
		if n, e := wax.Unseen(rare, c.weeks); n != c.want || e != api.OK {
			t.Error(c.weeks, n, e)
		}
	}
}

// P6.4: the weeks of Unseen are looked at one by one.
func TestUnseenErrors(t *testing.T) {
	for _, c := range []struct {
		weeks []int
		want  api.Errno
	}{
		{[]int{}, api.OK}, {[]int{0, 1, 2}, api.OK}, {[]int{0, 2}, api.OK},
		{[]int{-1}, api.ErrValue}, {[]int{3}, api.ErrValue}, {[]int{0, 3}, api.ErrValue},
		{[]int{1, 1}, api.ErrOrder}, {[]int{2, 1}, api.ErrOrder}, {[]int{0, 0}, api.ErrOrder}, {[]int{0, 1, 1}, api.ErrOrder},
		{[]int{1, 1, 3}, api.ErrOrder}, {[]int{3, 1, 1}, api.ErrValue}, {[]int{1, -1}, api.ErrValue}, {[]int{1, 0, -1}, api.ErrOrder},
		{[]int{0, 1, 2, 2}, api.ErrOrder}, {[]int{0, 1, 2, 3}, api.ErrValue},
	} {
		if n, e := wax.Unseen(seasonS(), c.weeks); e != c.want || e != api.OK && n != 0 {
			t.Error(c.weeks, n, e)
		}
		against := told(seen(0, 0, true))
		want := c.want
		if want == api.OK {
			want = api.ErrAgainst
		}
		if n, e := wax.Unseen(against, c.weeks); e != want || n != 0 {
			t.Error(c.weeks, n, e)
		}
	}
}
