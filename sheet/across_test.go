package sheet_test

import (
	"slices"
	"testing"

	"musette/api"
	"musette/bench"
	"musette/sheet"
)

// sawing returns a shop in which each sheet is an order, and each blank that is cut from it a work of an hour; the sheets go to the benches by turns.
func sawing(sheets []int, number, benches int) api.Shop {
	shop := api.Shop{Benches: benches, Tasks: make([]api.Task, number)}
	for i := range shop.Tasks {
		shop.Tasks[i].Due = len(sheets)
	}
	for _, on := range sheets {
		shop.Tasks[on].Works = append(shop.Tasks[on].Works, api.Work{Bench: on % benches, Hours: to(1, 1)})
	}
	return shop
}

// plans returns some plans of a shop: the best one, and random ones.
func (d *dice) plans(t *testing.T, shop api.Shop, sheets []int) [][]int {
	t.Helper()
	best, _, e := bench.Best(shop)
	plans := [][]int{must[[]int](t)(best, e), slices.Sorted(slices.Values(sheets))}
	for range 5 {
		plan := slices.Clone(sheets)
		for i := range plan {
			j := d.roll(i, len(plan)-1)
			plan[i], plan[j] = plan[j], plan[i]
		}
		plans = append(plans, plan)
	}
	return plans
}

// T10: if each sheet is an order, and each blank cut from it a work of an hour, one bench ends when all blanks are cut, whatever the plan is; of two benches that have the sheets by turns the one with more blanks ends last.
func TestSawn(t *testing.T) {
	d := dice(31)
	met := map[int]int{}
	for range 1500 {
		s, surely := d.stock(5, d.roll(1, 8)), d.often(2)
		sheets, number, e := sheet.Sheets(s, surely)
		if e == api.ErrNone || number > api.MaxTasks {
			continue
		}
		met[number]++
		turns := []int{0, 0}
		for _, on := range sheets {
			turns[on%2]++
		}
		for benches, end := range map[int]int{1: len(s.Parts), 2: max(turns[0], turns[1])} {
			shop := sawing(sheets, number, benches)
			for _, plan := range d.plans(t, shop, sheets) {
				if last := must[api.Range](t)(bench.Last(shop, plan)); last != to(end, end) {
					t.Fatal(s, sheets, benches, plan, last, end)
				}
			}
		}
	}
	if min(met[0], met[1], met[2], met[3], met[4]) < 20 {
		t.Error("too rare", met)
	}
}
