package batch_test

import (
	"math/bits"
	"slices"
	"testing"

	"musette/api"
	"musette/batch"
)

// checkSaid ends the test if something other is said of a journal than all its truths say.
func checkSaid(t *testing.T, j api.Journal, s said) {
	t.Helper()
	if !slices.Equal(must[[]api.Range](t)(batch.Left(j)), s.left) || !slices.Equal(must[[]api.Range](t)(batch.Rest(j)), s.rest) {
		t.Fatal(j, s)
	}
	holds := must[[][]int](t)(batch.Holds(j))
	mixed := must[[]int](t)(batch.Mixed(j))
	if len(holds) != j.Instruments || len(mixed) != j.Instruments {
		t.Fatal(j, holds, mixed)
	}
	for i := range j.Instruments {
		if len(holds[i]) != batchesOf(j) || mixed[i] != s.verdict(i, func(mask int) bool { return bits.OnesCount(uint(mask)) > 1 }) {
			t.Fatal(j, i, holds, mixed, s)
		}
		for b, verdict := range holds[i] {
			amount := must[api.Range](t)(batch.Amount(j, i, b))
			if verdict != s.verdict(i, func(mask int) bool { return mask>>b&1 == 1 }) || amount != s.shares[i][b] {
				t.Fatal(j, i, b, holds, amount, s)
			}
		}
	}
	checkSets(t, j, s)
}

// checkSets does so for all sets of batches, and for all of bad and good instruments.
func checkSets(t *testing.T, j api.Journal, s said) {
	t.Helper()
	for set := range sets(batchesOf(j)) {
		has := must[[]int](t)(batch.Has(j, set))
		recall := must[[]int](t)(batch.Recall(j, set))
		var want []int
		for i := range j.Instruments {
			if has[i] != s.verdict(i, func(mask int) bool { return mask&maskOf(set) != 0 }) {
				t.Fatal(j, set, i, has, s)
			}
			if has[i] != never {
				want = append(want, i)
			}
		}
		if len(has) != j.Instruments || !slices.Equal(recall, want) {
			t.Fatal(j, set, has, recall)
		}
	}
	for bad := range sets(j.Instruments) {
		for good := range sets(j.Instruments) {
			var want []int
			for b := range batchesOf(j) {
				for mask, n := range s.by[b] {
					if n > 0 && mask&maskOf(bad) == maskOf(bad) && mask&maskOf(good) == 0 && !slices.Contains(want, b) {
						want = append(want, b)
					}
				}
			}
			suspects, e := batch.Suspects(j, bad, good)
			if !slices.Equal(suspects, want) || e != no(want == nil, api.ErrNone) {
				t.Fatal(j, bad, good, suspects, e, want)
			}
		}
	}
}

// P9.1 to P9.4, P9.9: all lists and ranges are just what all truths of small journals say.
func TestAll(t *testing.T) {
	d := dice(1)
	met := map[string]int{}
	for range 2000 {
		j := d.journal(d.roll(0, 7), d.roll(1, 3), d.roll(0, 2))
		s, few := saidOf(j, 4000)
		if !few {
			met["many"]++
			continue
		}
		if is := must[bool](t)(batch.Stands(j)); is != (s.truths > 0) {
			t.Fatal(j, is, s)
		}
		if s.truths == 0 {
			met["against"]++
			checkAgainst(t, j)
			continue
		}
		checkSaid(t, j, s)
		met["truths"]++
		if s.truths > 30 {
			met["open"]++
		}
	}
	if min(met["against"], met["truths"], met["open"]) < 100 {
		t.Error("too rare", met)
	}
}

// P9.1 to P9.4: larger amounts, and as many batches as there can be, in both kinds of bins.
func TestAllLarge(t *testing.T) {
	d := dice(2)
	met := map[int]int{}
	for range 700 {
		j := d.journal(d.roll(6, 10), 5, d.once(3))
		s, few := saidOf(j, 4000)
		if few && s.truths > 0 {
			met[batchesOf(j)]++
			checkSaid(t, j, s)
		}
	}
	if min(met[1], met[2], met[3], met[4]) < 10 {
		t.Error("too rare", met)
	}
}

// P9.1 to P9.4: journals whose truths can be told without a search.
func TestKnown(t *testing.T) {
	five := of(2, "a", in(0, 5, 5), in(0, 5, 5), in(0, 5, 5), in(0, 5, 5), out(0, 0, 5, 5), out(0, 0, 5, 5), out(0, 1, 5, 5), out(0, 1, 5, 5))
	if left := must[[]api.Range](t)(batch.Left(five)); !slices.Equal(left, []api.Range{to(0, 0)}) {
		t.Error(left)
	}
	for b := range 4 {
		if r := must[api.Range](t)(batch.Amount(five, 1, b)); r != to(0, 5) {
			t.Error(b, r)
		}
	}
	if mixed := must[[]int](t)(batch.Mixed(five)); !slices.Equal(mixed, []int{always, always}) {
		t.Error(mixed)
	}
	full := of(1, "f", in(0, 5, 5), in(0, 5, 5), in(0, 5, 5), in(0, 5, 5))
	if left := must[[]api.Range](t)(batch.Left(full)); !slices.Equal(left, []api.Range{to(20, 20)}) {
		t.Error(left)
	}
	// A bin with more than can be counted is not as counted.
	for _, n := range []int{0, 4, 5} {
		checkAgainst(t, more(full, count(0, n, 5)))
	}
	// A count in the middle tells what came before it, and nothing of what comes after it.
	counted := of(1, "f", in(0, 0, 5), count(0, 2, 3), in(0, 0, 5))
	if rest := must[[]api.Range](t)(batch.Rest(counted)); !slices.Equal(rest, []api.Range{to(2, 3), to(0, 5)}) {
		t.Error(rest)
	}
	// What comes in behind something that is not used up is not taken, but what came into another bin does not matter.
	two := of(2, "ff", in(0, 1, 2), in(1, 1, 1), in(0, 3, 3), out(0, 0, 2, 2), out(1, 1, 1, 1))
	if holds := must[[][]int](t)(batch.Holds(two)); !slices.EqualFunc(holds, [][]int{{always, never, either}, {never, always, never}}, slices.Equal) {
		t.Error(holds)
	}
}
