package batch_test

import (
	"cmp"
	"slices"
	"testing"

	"musette/api"
	"musette/batch"
)

// without returns a journal without some moves.
func without(j api.Journal, moves []int) api.Journal {
	return after(j, func(j *api.Journal) {
		for _, at := range slices.Backward(moves) {
			j.Moves = slices.Delete(j.Moves, at, at+1)
		}
	})
}

// hasTruth tells whether a journal has a truth.
func hasTruth(j api.Journal) bool {
	for range truths(j) {
		return true
	}
	return false
}

// countsOf returns all moves that count.
func countsOf(j api.Journal) []int {
	var counts []int
	for i, m := range j.Moves {
		if m.Kind == api.MoveCount {
			counts = append(counts, i)
		}
	}
	return counts
}

// wrongOf returns the counts that are wrong, in the words of the chapter: of all lists of counts without which the journal stands the shortest, then the first one.
func wrongOf(j api.Journal, stands func(api.Journal) bool) ([]int, api.Errno) {
	counts := countsOf(j)
	if !stands(without(j, counts)) {
		return nil, api.ErrAgainst
	}
	var lists [][]int
	for set := range sets(len(counts)) {
		var list []int
		for _, at := range set {
			list = append(list, counts[at])
		}
		if stands(without(j, list)) {
			lists = append(lists, list)
		}
	}
	return slices.MinFunc(lists, func(a, b []int) int { return cmp.Or(cmp.Compare(len(a), len(b)), slices.Compare(a, b)) }), api.OK
}

// counted returns a journal with more counts, which may be wrong, until it has so many moves.
func (d *dice) counted(j api.Journal, moves int) api.Journal {
	j = copyOf(j)
	for len(j.Moves) < moves {
		n := d.roll(0, 3)
		m := count(d.roll(0, len(j.First)-1), n, n+d.once(3))
		j.Moves = slices.Insert(j.Moves, d.roll(0, len(j.Moves)), m)
	}
	return j
}

// P9.5, P9.13: the fewest counts are wrong, and the first list of several: all lists are looked at.
func TestFewest(t *testing.T) {
	d := dice(3)
	met := map[int]int{}
	for round := range 2500 {
		j := d.counted(d.journal(d.roll(0, 6), 3, d.once(2)), 9)
		stands := hasTruth
		if round%4 > 0 { // Stands itself is held against all truths in TestAll
			j = d.counted(d.journal(d.roll(0, 8), 5, d.roll(0, 2)), 10)
			stands = func(j api.Journal) bool { return must[bool](t)(batch.Stands(j)) }
		}
		want, due := wrongOf(j, stands)
		wrong, e := batch.Wrong(j)
		if !slices.Equal(wrong, want) || e != due {
			t.Fatal(j, wrong, e, want, due)
		}
		if due == api.OK {
			met[len(want)]++
		} else {
			met[-1]++
		}
	}
	if min(met[-1], met[0], met[1], met[2], met[3], met[4]) < 10 {
		t.Error("too rare", met)
	}
}

// P9.5: which counts are wrong, of several lists that are as short the first one.
func TestWrong(t *testing.T) {
	ten := slices.Repeat([]api.Move{count(0, 1, 1)}, 10)
	for i, c := range []struct {
		j    api.Journal
		want []int
		e    api.Errno
	}{
		{of(1, "f"), nil, api.OK},
		{of(1, "f", ten...), []int{0, 1, 2, 3, 4, 5, 6, 7, 8, 9}, api.OK},
		{of(1, "f", in(0, 2, 2), count(0, 1, 1), count(0, 2, 2), count(0, 3, 3), count(0, 2, 2)), []int{1, 3}, api.OK},
		{of(1, "f", in(0, 1, 3), count(0, 1, 1), count(0, 2, 2), count(0, 3, 3)), []int{1, 2}, api.OK},
		{of(1, "f", in(0, 1, 3), count(0, 1, 1), count(0, 2, 2)), []int{1}, api.OK},
		{of(1, "f", in(0, 1, 3), count(0, 1, 2), count(0, 2, 2), count(0, 1, 1)), []int{2}, api.OK},
		{of(1, "fa", in(0, 1, 3), count(1, 1, 2), in(1, 1, 1), count(1, 1, 1)), []int{1}, api.OK},
		{of(1, "f", in(0, 1, 3), out(0, 0, 1, 3), count(0, 3, 3), out(0, 0, 1, 1), out(0, 0, 1, 1)), []int{2}, api.OK},
		{of(1, "f", in(0, 1, 3), out(0, 0, 4, 4), count(0, 0, 0)), nil, api.ErrAgainst},
		{of(1, "f", out(0, 0, 1, 1)), nil, api.ErrAgainst},
	} {
		if wrong, e := batch.Wrong(c.j); !slices.Equal(wrong, c.want) || e != c.e {
			t.Error(i, wrong, e)
		}
	}
}
