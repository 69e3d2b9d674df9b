package batch_test

import (
	"slices"
	"testing"

	"musette/api"
	"musette/batch"
)

// tells tells whether a verdict may be given if something is so in a truth, or is not.
func tells(verdict int, so bool) bool {
	if so {
		return verdict != never
	}
	return verdict != always
}

// kindsOf returns of how many batches there is something.
func kindsOf(has amounts) int {
	kinds := 0
	for _, n := range has {
		kinds += min(1, n)
	}
	return kinds
}

// checkTrue ends the test if what is said of a journal does not allow a truth.
func checkTrue(t *testing.T, d *dice, j api.Journal, x truth) {
	t.Helper()
	left := must[[]api.Range](t)(batch.Left(j))
	for bin, r := range left {
		if !inside(x.lies(j.Moves, bin), r) {
			t.Fatal(j, x, bin, left)
		}
	}
	rest := must[[]api.Range](t)(batch.Rest(j))
	holds, mixed := must[[][]int](t)(batch.Holds(j)), must[[]int](t)(batch.Mixed(j))
	set := d.set(batchesOf(j))
	has, recall := must[[]int](t)(batch.Has(j, set)), must[[]int](t)(batch.Recall(j, set))
	for i := range j.Instruments {
		any := false
		for b := range rest {
			any = any || slices.Contains(set, b) && x.has[i][b] > 0
			if !tells(holds[i][b], x.has[i][b] > 0) || !inside(x.has[i][b], must[api.Range](t)(batch.Amount(j, i, b))) || !inside(x.left[b], rest[b]) {
				t.Fatal(j, x, i, b, holds, rest)
			}
		}
		if !tells(has[i], any) || any && !slices.Contains(recall, i) || !tells(mixed[i], kindsOf(x.has[i]) > 1) {
			t.Fatal(j, x, i, set, has, recall, mixed)
		}
	}
	if len(must[[]int](t)(batch.Wrong(j))) > 0 {
		t.Fatal(j, x)
	}
	for b := range rest {
		checkBad(t, j, x, b)
	}
}

// checkBad ends the test unless a batch is a suspect if just the instruments that have it in a truth are bad.
func checkBad(t *testing.T, j api.Journal, x truth, b int) {
	t.Helper()
	var bad, good []int
	for i := range j.Instruments {
		if x.has[i][b] > 0 {
			bad = append(bad, i)
		} else {
			good = append(good, i)
		}
	}
	if l := must[[]int](t)(batch.Suspects(j, bad, good)); !slices.Contains(l, b) {
		t.Fatal(j, x, b, bad, good, l)
	}
}

// P9.8: however much it truly was, and of whichever batches, all that is said allows it.
func TestTrue(t *testing.T) {
	d := dice(6)
	for range 1500 {
		j, x := d.story(d.roll(0, 10), d.roll(1, 5), d.roll(0, 3))
		checkTrue(t, &d, j, x)
	}
}

// P9.10: out of bins that give out first what came in first, with known amounts, all is known, and each unit taken is of the first batch that is left.
func TestFirst(t *testing.T) {
	d := dice(7)
	met := 0
	for range 3000 {
		j, x := d.story(d.roll(3, 10), d.roll(1, 5), 0)
		if slices.Contains(j.First, false) || slices.ContainsFunc(j.Moves, func(m api.Move) bool { return m.Instrument == lost }) {
			continue
		}
		met++
		var queues [api.MaxBins][]int // the batch of each unit that is left
		var has [api.MaxInstruments]amounts
		came := 0
		for _, m := range j.Moves {
			queue := &queues[m.Bin]
			switch m.Kind {
			case api.MoveIn:
				*queue = append(*queue, slices.Repeat([]int{came}, m.Amount.Min)...)
				came++
			case api.MoveOut:
				for _, b := range (*queue)[:m.Amount.Min] {
					has[m.Instrument][b]++
				}
				*queue = (*queue)[m.Amount.Min:]
			}
		}
		if has != x.has {
			t.Fatal(j, x, has)
		}
		checkKnown(t, j, has)
	}
	if met < 300 {
		t.Error("too rare", met)
	}
}

// checkKnown ends the test unless it is known how much of which batch each instrument has.
func checkKnown(t *testing.T, j api.Journal, has [api.MaxInstruments]amounts) {
	t.Helper()
	holds, mixed := must[[][]int](t)(batch.Holds(j)), must[[]int](t)(batch.Mixed(j))
	for i := range j.Instruments {
		for b := range batchesOf(j) {
			n := has[i][b]
			if r := must[api.Range](t)(batch.Amount(j, i, b)); r != to(n, n) || holds[i][b] != verdictOf(min(n, 1), 1) {
				t.Fatal(j, has, i, b, r, holds)
			}
		}
		if mixed[i] == either {
			t.Fatal(j, i, mixed)
		}
	}
	for set := range sets(batchesOf(j)) {
		if slices.Contains(must[[]int](t)(batch.Has(j, set)), either) {
			t.Fatal(j, set)
		}
	}
}

// P9.11: verdicts are as amounts say, and amounts of a batch are together no more than may have come in, and no less than must have.
func TestAmounts(t *testing.T) {
	d := dice(8)
	met := map[int]int{}
	for range 1500 {
		j, _ := d.story(d.roll(0, 10), d.roll(1, 5), d.roll(0, 3))
		holds, rest := must[[][]int](t)(batch.Holds(j)), must[[]api.Range](t)(batch.Rest(j))
		came := 0
		for _, m := range j.Moves {
			if m.Kind != api.MoveIn {
				continue
			}
			sum := rest[came]
			for i := range j.Instruments {
				r, v := must[api.Range](t)(batch.Amount(j, i, came)), holds[i][came]
				if (v == always) != (r.Min > 0) || (v == never) != (r.Max == 0) {
					t.Fatal(j, i, came, r, v)
				}
				met[v]++
				sum.Min += r.Min
				sum.Max += r.Max
			}
			if sum.Min > m.Amount.Max || sum.Max < m.Amount.Min {
				t.Fatal(j, came, sum)
			}
			came++
		}
	}
	if min(met[always], met[never], met[either]) < 300 {
		t.Error("too rare", met)
	}
}

// subset tells whether all numbers of a list are in another one.
func subset(list, other []int) bool {
	for _, n := range list {
		if !slices.Contains(other, n) {
			return false
		}
	}
	return true
}

// P9.12: more batches call back no fewer instruments, all batches all that something may have been taken for; those are called back that do not never have one.
func TestRecalls(t *testing.T) {
	d := dice(9)
	for range 500 {
		j, _ := d.story(d.roll(0, 10), d.roll(1, 5), d.roll(0, 3))
		calls := map[int][]int{}
		var all []int
		for set := range sets(batchesOf(j)) {
			recall, has := must[[]int](t)(batch.Recall(j, set)), must[[]int](t)(batch.Has(j, set))
			for i, v := range has {
				if (v != never) != slices.Contains(recall, i) {
					t.Fatal(j, set, recall, has)
				}
			}
			if !slices.IsSorted(recall) {
				t.Fatal(j, set, recall)
			}
			for mask, fewer := range calls {
				if mask&maskOf(set) == mask && !subset(fewer, recall) {
					t.Fatal(j, set, mask, recall, fewer)
				}
			}
			calls[maskOf(set)], all = recall, recall
		}
		for i := range j.Instruments {
			may := false
			for b := range batchesOf(j) {
				may = may || must[api.Range](t)(batch.Amount(j, i, b)).Max > 0
			}
			if may != slices.Contains(all, i) {
				t.Fatal(j, i, all)
			}
		}
	}
}

// better returns a journal that tells more of a truth: narrower amounts, slips that are found, counts more.
func (d *dice) better(j api.Journal, x truth) api.Journal {
	j = copyOf(j)
	for at, m := range j.Moves {
		if n := x.took[at].sum(); m.Kind != api.MoveCount && d.often(2) {
			j.Moves[at].Amount = to(d.roll(m.Amount.Min, n), d.roll(n, m.Amount.Max))
		}
		if m.Instrument == lost && d.often(2) {
			j.Moves[at].Instrument = x.whom[at]
		}
	}
	bin := d.roll(0, len(j.First)-1)
	if lies := x.lies(j.Moves, bin); lies <= api.MaxAmount && len(j.Moves) < api.MaxMoves && d.often(2) {
		m := count(bin, 0, 0)
		m.Amount = d.around(lies, 2)
		j.Moves = append(j.Moves, m)
	}
	return j
}

// P9.14: if more is known, no verdict that is Always or Never changes, no instrument is called back more, and no range is wider.
func TestBetter(t *testing.T) {
	d := dice(10)
	met := map[string]int{}
	for range 1000 {
		j, x := d.story(d.roll(1, 10), d.roll(1, 4), d.roll(1, 2))
		k := d.better(j, x)
		if d.often(3) { // a count anywhere, or any narrower amount, if the journal stands with it
			at := d.roll(0, len(k.Moves)-1)
			r := &k.Moves[at].Amount
			r.Min = d.roll(r.Min, r.Max)
			if bin := d.roll(0, len(k.First)-1); len(k.Moves) < api.MaxMoves {
				k.Moves = slices.Insert(k.Moves, at, count(bin, 0, d.roll(0, 5)))
			}
			met["any"]++
		}
		if !must[bool](t)(batch.Stands(k)) {
			met["against"]++
			continue
		}
		if !slices.EqualFunc(must[[][]int](t)(batch.Holds(j)), must[[][]int](t)(batch.Holds(k)), slices.Equal) {
			met["better"]++
		}
		checkBetter(t, j, k)
	}
	if min(met["any"], met["against"], met["better"]) < 50 {
		t.Error("too rare", met)
	}
}

// checkBetter ends the test unless the second journal tells at least as much.
func checkBetter(t *testing.T, j, k api.Journal) {
	t.Helper()
	checkVerdicts(t, must[[]int](t)(batch.Mixed(j)), must[[]int](t)(batch.Mixed(k)))
	checkRanges(t, must[[]api.Range](t)(batch.Left(j)), must[[]api.Range](t)(batch.Left(k)))
	checkRanges(t, must[[]api.Range](t)(batch.Rest(j)), must[[]api.Range](t)(batch.Rest(k)))
	holds := must[[][]int](t)(batch.Holds(k))
	for i, verdicts := range must[[][]int](t)(batch.Holds(j)) {
		checkVerdicts(t, verdicts, holds[i])
		for b := range verdicts {
			checkRanges(t, []api.Range{must[api.Range](t)(batch.Amount(j, i, b))}, []api.Range{must[api.Range](t)(batch.Amount(k, i, b))})
		}
	}
	for set := range sets(batchesOf(j)) {
		checkVerdicts(t, must[[]int](t)(batch.Has(j, set)), must[[]int](t)(batch.Has(k, set)))
		if fewer := must[[]int](t)(batch.Recall(k, set)); !subset(fewer, must[[]int](t)(batch.Recall(j, set))) {
			t.Fatal(j, k, set, fewer)
		}
	}
}

// checkVerdicts ends the test if a verdict that is Always or Never changes.
func checkVerdicts(t *testing.T, before, now []int) {
	t.Helper()
	for i, v := range before {
		if len(before) != len(now) || v != either && v != now[i] {
			t.Fatal(before, now)
		}
	}
}

// checkRanges ends the test if a range is wider.
func checkRanges(t *testing.T, before, now []api.Range) {
	t.Helper()
	for i, r := range before {
		if len(before) != len(now) || now[i].Min < r.Min || now[i].Max > r.Max {
			t.Fatal(before, now)
		}
	}
}

// P9.15: if a bin that gives out anything gives out first what came in first, no verdict that is Never changes.
func TestAny(t *testing.T) {
	d := dice(11)
	met := 0
	for range 1500 {
		j, _ := d.story(d.roll(1, 10), d.roll(1, 5), d.roll(0, 2))
		bin := d.roll(0, len(j.First)-1)
		if j.First[bin] {
			continue
		}
		k := after(j, func(j *api.Journal) { j.First[bin] = true })
		var before, now []int
		for i := range j.Instruments {
			before = append(before, must[[][]int](t)(batch.Holds(j))[i]...)
			now = append(now, must[[][]int](t)(batch.Holds(k))[i]...)
		}
		for set := range sets(batchesOf(j)) {
			before = append(before, must[[]int](t)(batch.Has(j, set))...)
			now = append(now, must[[]int](t)(batch.Has(k, set))...)
		}
		before = append(before, must[[]int](t)(batch.Mixed(j))...)
		now = append(now, must[[]int](t)(batch.Mixed(k))...)
		for i, v := range before {
			if v == never && now[i] != never {
				t.Fatal(j, before, now)
			}
			if v != now[i] {
				met++
			}
		}
	}
	if met < 300 {
		t.Error("too rare", met)
	}
}

// checkRenamed ends the test unless the same is said of two journals, the instrument i of the first one being as[i] of the second one, and the batch b being batches[b].
func checkRenamed(t *testing.T, j, k api.Journal, as, batches []int) {
	t.Helper()
	is, same := must[bool](t)(batch.Stands(j)), must[bool](t)(batch.Stands(k))
	wrong, e := batch.Wrong(j)
	others, f := batch.Wrong(k)
	if is != same || len(wrong) != len(others) || e != f {
		t.Fatal(j, k, is, same, wrong, others)
	}
	if !is {
		return
	}
	left, rest := must[[]api.Range](t)(batch.Left(k)), must[[]api.Range](t)(batch.Rest(k))
	holds, mixed := must[[][]int](t)(batch.Holds(k)), must[[]int](t)(batch.Mixed(k))
	if !slices.Equal(must[[]api.Range](t)(batch.Left(j)), left) {
		t.Fatal(j, k, left)
	}
	for i, verdicts := range must[[][]int](t)(batch.Holds(j)) {
		for b, v := range verdicts {
			if holds[as[i]][batches[b]] != v || rest[batches[b]] != must[[]api.Range](t)(batch.Rest(j))[b] || must[api.Range](t)(batch.Amount(j, i, b)) != must[api.Range](t)(batch.Amount(k, as[i], batches[b])) {
				t.Fatal(j, k, i, b, holds, rest)
			}
		}
		if mixed[as[i]] != must[[]int](t)(batch.Mixed(j))[i] {
			t.Fatal(j, k, i, mixed)
		}
	}
	for set := range sets(batchesOf(j)) {
		if recall := renamed(must[[]int](t)(batch.Recall(j, set)), as); !slices.Equal(must[[]int](t)(batch.Recall(k, renamed(set, batches))), recall) {
			t.Fatal(j, k, set, recall)
		}
	}
	for bad := range sets(j.Instruments) {
		good := []int{len(bad) % j.Instruments}
		suspects, e := batch.Suspects(j, bad, good)
		others, f := batch.Suspects(k, renamed(bad, as), renamed(good, as))
		if !slices.Equal(renamed(suspects, batches), others) || e != f {
			t.Fatal(j, k, bad, good, suspects, others)
		}
	}
}

// renamed returns a set whose numbers have other names.
func renamed(set, as []int) []int {
	var list []int
	for _, n := range set {
		list = append(list, as[n])
	}
	slices.Sort(list)
	return list
}

// numbers returns all numbers below one, in order; shuffled in any order.
func numbers(below int) []int {
	var list []int
	for n := range below {
		list = append(list, n)
	}
	return list
}

func (d *dice) shuffled(list []int) []int {
	for i := range list {
		j := d.roll(i, len(list)-1)
		list[i], list[j] = list[j], list[i]
	}
	return list
}

// P9.17: if instruments have other numbers, the same is said of them.
func TestRenamed(t *testing.T) {
	d := dice(12)
	for range 600 {
		j := d.journal(d.roll(0, 10), d.roll(1, 5), d.roll(0, 2))
		as := d.shuffled(numbers(j.Instruments))
		k := after(j, func(j *api.Journal) {
			for at, m := range j.Moves {
				if m.Kind == api.MoveOut && m.Instrument != lost {
					j.Moves[at].Instrument = as[m.Instrument]
				}
			}
		})
		checkRenamed(t, j, k, as, numbers(batchesOf(j)))
	}
}

// P9.17: if moves of two bins change places, the same is said of instruments and of batches, which may have other numbers then.
func TestPlaces(t *testing.T) {
	d := dice(13)
	met := map[bool]int{}
	for range 1500 {
		j := d.journal(d.roll(2, 10), d.roll(1, 5), d.roll(0, 2))
		k := copyOf(j)
		batches := numbers(batchesOf(j))
		at := d.roll(0, len(j.Moves)-2)
		one, other := j.Moves[at], j.Moves[at+1]
		if one.Bin == other.Bin {
			continue
		}
		k.Moves[at], k.Moves[at+1] = other, one
		both := one.Kind == api.MoveIn && other.Kind == api.MoveIn
		if both {
			b := batchesOf(api.Journal{Moves: j.Moves[:at]})
			batches[b], batches[b+1] = b+1, b
		}
		met[both]++
		checkRenamed(t, j, k, numbers(j.Instruments), batches)
	}
	if min(met[true], met[false]) < 50 {
		t.Error("too rare", met)
	}
}
