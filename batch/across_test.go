package batch_test

import (
	"slices"
	"testing"

	"musette/api"
	"musette/batch"
	"musette/bench"
	"musette/sheet"
)

// truth returns the shop in which all hours are known to be some of a shop.
func (d *dice) truth(s api.Shop) api.Shop {
	s.Tasks = slices.Clone(s.Tasks)
	for i, x := range s.Tasks {
		s.Tasks[i].Works = slices.Clone(x.Works)
		for w, y := range x.Works {
			n := d.roll(y.Hours.Min, y.Hours.Max)
			s.Tasks[i].Works[w].Hours = to(n, n)
		}
	}
	return s
}

// drawn returns a journal of bins that give out first what came in first, in which known batches came in, with the moves of a plan; it tells whether there is enough for all works.
func (d *dice) drawn(t *testing.T, s api.Shop, plan []int) (api.Journal, bool) {
	t.Helper()
	j := of(4, "ff")
	for range d.roll(1, min(4, 10-len(plan))) {
		n := d.roll(0, 5)
		j.Moves = append(j.Moves, in(d.roll(0, 1), n, n))
	}
	j = must[api.Journal](t)(batch.Works(j, s, plan))
	return j, must[bool](t)(batch.Stands(j))
}

// takenBy returns how much of which batch each order takes in a truth of the hours, if each work takes a unit from the bin of its bench when it begins.
func takenBy(t *testing.T, j api.Journal, known api.Shop, plan []int) [api.MaxInstruments]amounts {
	t.Helper()
	var queues [api.MaxBins][]int
	batches := 0
	for _, m := range j.Moves {
		if m.Kind == api.MoveIn {
			queues[m.Bin] = append(queues[m.Bin], slices.Repeat([]int{batches}, m.Amount.Min)...)
			batches++
		}
	}
	slots := must[[]api.Slot](t)(bench.Run(known, plan))
	slices.SortFunc(slots, func(a, b api.Slot) int { return a.Begin.Min - b.Begin.Min }) // no two on one bench begin at once
	var has [api.MaxInstruments]amounts
	for _, x := range slots {
		has[x.Task][queues[x.Bench][0]]++
		queues[x.Bench] = queues[x.Bench][1:]
	}
	return has
}

// T4: if each work takes a unit when it begins, just the works that begin first have the first batch, as many as it has units, whatever hours the works take; a recall of a batch leads to just their orders.
func TestDrawn(t *testing.T) {
	d := dice(31)
	met := 0
	for range 2500 {
		s, plan := d.shop(2, 4, 8)
		j, enough := d.drawn(t, s, plan)
		if !enough {
			continue
		}
		for range 4 {
			has := takenBy(t, j, d.truth(s), plan)
			checkKnown(t, j, has)
			for b := range batchesOf(j) {
				var orders []int
				for i := range has {
					if has[i][b] > 0 {
						orders = append(orders, i)
					}
				}
				if recall := must[[]int](t)(batch.Recall(j, []int{b})); !slices.Equal(recall, orders) {
					t.Fatal(j, s, plan, b, recall, orders)
				}
				if len(orders) > 1 {
					met++
				}
			}
		}
	}
	if met < 500 {
		t.Error("too rare", met)
	}
}

// T5: if slips of the moves that a plan makes are lost, no order is called back less, each verdict that is Always or Never without the slips is so with them, and the bins have as much left.
func TestSlips(t *testing.T) {
	d := dice(32)
	met := 0
	for range 1200 {
		s, plan := d.shop(2, 4, 6)
		j := of(4, []string{"ff", "fa", "af", "aa"}[d.roll(0, 3)])
		for range d.roll(1, 4) {
			n := d.roll(0, 5)
			j.Moves = append(j.Moves, in(d.roll(0, 1), n, min(5, n+d.once(2))))
		}
		j = must[api.Journal](t)(batch.Works(j, s, plan))
		k := copyOf(j)
		for at, m := range k.Moves {
			if m.Kind == api.MoveOut && d.often(2) {
				k.Moves[at].Instrument = lost
			}
		}
		if is := must[bool](t)(batch.Stands(j)); is != must[bool](t)(batch.Stands(k)) {
			t.Fatal(j, k, is)
		} else if !is || equal(j, k) {
			continue
		}
		met++
		checkBetter(t, k, j)
		if !slices.Equal(must[[]api.Range](t)(batch.Left(j)), must[[]api.Range](t)(batch.Left(k))) || !slices.Equal(must[[]api.Range](t)(batch.Rest(j)), must[[]api.Range](t)(batch.Rest(k))) {
			t.Fatal(j, k)
		}
	}
	if met < 300 {
		t.Error("too rare", met)
	}
}

// blanks returns a stock of at most five blanks.
func (d *dice) blanks() api.Sheet {
	s := api.Sheet{Long: d.roll(3, 6), Wide: d.roll(3, 6), Along: to(0, d.roll(0, 1))}
	for range d.roll(0, 5) {
		s.Parts = append(s.Parts, api.Part{Long: d.roll(1, 4), Wide: d.roll(1, 4), Grain: d.often(3)})
	}
	return s
}

// T11: if all blanks of a sheet come into a bin as a batch, which gives out first what came in first, and go into instruments sheet by sheet, a bad sheet calls back just the instruments whose blank was cut from it, and nothing is left.
func TestRecalled(t *testing.T) {
	d := dice(33)
	met := map[int]int{}
	for range 4000 {
		sheets, number, e := sheet.Sheets(d.blanks(), d.often(2))
		if e == api.ErrNone || number > api.MaxBatches {
			continue
		}
		met[number]++
		j := of(d.roll(1, 4), "f")
		called := make([][]int, number)
		var outs []api.Move
		atOnce := d.often(2) // all sheets come in ahead of the first blank that goes out
		for bad := range number {
			blanks := 0
			var goes []api.Move
			for _, on := range sheets {
				if on == bad {
					i := d.roll(0, j.Instruments-1)
					goes = append(goes, out(0, i, 1, 1))
					called[bad] = append(called[bad], i)
					blanks++
				}
			}
			j.Moves = append(j.Moves, in(0, blanks, blanks))
			if outs = append(outs, goes...); !atOnce {
				j.Moves = append(j.Moves, goes...)
			}
		}
		if atOnce {
			j.Moves = append(j.Moves, outs...)
		}
		if left := must[[]api.Range](t)(batch.Left(j)); !slices.Equal(left, []api.Range{to(0, 0)}) {
			t.Fatal(j, left)
		}
		for bad, list := range called {
			slices.Sort(list)
			if recall := must[[]int](t)(batch.Recall(j, []int{bad})); !slices.Equal(recall, slices.Compact(list)) {
				t.Fatal(j, sheets, bad, recall, list)
			}
		}
	}
	if min(met[0], met[1], met[2], met[3], met[4]) < 30 {
		t.Error("too rare", met)
	}
}
