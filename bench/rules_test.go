package bench_test

import (
	"math"
	"slices"
	"strings"
	"testing"

	"musette/api"
	"musette/bench"
)

// arguments is all that the functions of the package take.
type arguments struct {
	s      api.Shop
	plan   []int
	t      api.Task
	begins [][]int
	text   string
}

// results is all that comes out of the functions: values, and lists as they are.
type results struct {
	values []any
	lists  [][]int
	ranges [][]api.Range
	slots  [][]api.Slot
	tasks  [][]api.Task
	works  [][]api.Work
}

func (r *results) keep(values ...any) { r.values = append(r.values, values...) }

// keepList keeps a list, and its values.
func keepList[T any](r *results, lists *[][]T, list []T) {
	*lists = append(*lists, list)
	r.keep(len(list))
	for _, item := range list {
		r.keep(item)
	}
}

func (r *results) list(list []int, values ...any) {
	keepList(r, &r.lists, list)
	r.keep(values...)
}

// callAll calls each function of the package with these arguments.
func callAll(a arguments) results {
	var r results
	r.keep(bench.Check(a.s))
	loads, e1 := bench.Load(a.s)
	ends, e2 := bench.Ends(a.s, a.plan)
	slots, e3 := bench.Run(a.s, a.plan)
	keepList(&r, &r.ranges, loads)
	keepList(&r, &r.ranges, ends)
	keepList(&r, &r.slots, slots)
	bound, e4 := bench.Bound(a.s)
	last, e5 := bench.Last(a.s, a.plan)
	r.keep(e1, e2, e3, bound, e4, last, e5)
	late, e := bench.Late(a.s, a.plan)
	r.list(late, e)
	slack, e := bench.Slack(a.s, a.plan)
	r.list(slack, e)
	critical, e := bench.Critical(a.s, a.plan)
	r.list(critical, e)
	best, end, e := bench.Best(a.s)
	r.list(best, end, e)
	prompt, number, e := bench.Prompt(a.s)
	r.list(prompt, number, e)
	longer, end, e := bench.PutIn(a.s, a.plan, a.t)
	r.list(longer, end, e)
	order, work, e := bench.Clash(a.s, a.begins)
	text, x := bench.Write(a.s)
	r.keep(order, work, e, text, x)
	s, line, e := bench.Read(a.text)
	r.keep(s.Benches, len(s.Tasks), line, e)
	r.tasks = append(r.tasks, s.Tasks)
	for _, t := range s.Tasks {
		r.keep(t.Ready, t.Due)
		keepList(&r, &r.works, t.Works)
	}
	return r
}

// wild returns a shop in which something is anything.
func wild(field, a, b int) api.Shop {
	s, r := shopS(), to(a, b)
	switch field {
	case 0:
		s.Benches = a
	case 1:
		s.Tasks[1].Ready, s.Tasks[0].Due = a, b
	case 2:
		s.Tasks[0].Works[1].Bench = a
	case 3:
		s.Tasks[2].Works[0].Hours = r
	case 4:
		s.Tasks = slices.Repeat([]api.Task{task(a, b, work(a, b, a))}, 1000)
	case 5:
		s.Tasks[0].Works = slices.Repeat([]api.Work{{Bench: a, Hours: r}}, 1000)
	case 6:
		s.Tasks[0].Works = slices.Repeat([]api.Work{work(0, 1, 1)}, 1000)
	}
	return s
}

// P1, R5: whatever the arguments are, each function comes to an end and does not panic.
func TestAnyArguments(t *testing.T) {
	numbers := []int{math.MinInt, math.MinInt + 1, -201, -1, 0, 1, 2, 3, 7, 200, 201, math.MaxInt - 1, math.MaxInt}
	for _, a := range numbers {
		for _, b := range numbers {
			for field := range 8 {
				s := wild(field, a, b)
				for _, list := range [][]int{nil, {a, b}, {0, 1, 1, 2, a}, {0, 1, 1, 2, 0}, slices.Repeat([]int{a}, 1000)} {
					callAll(arguments{s: s, plan: list, t: task(a, b, work(b, a, a)), begins: [][]int{list, {a, b}, {b}}, text: strings.Repeat("order ", field)})
				}
				callAll(arguments{s: s, plan: examplePlan(), t: task(1, 1, work(a, 1, b)), begins: [][]int{{a, b}, {b, a}, {a}}, text: benchesLine + "order 0 "})
				callAll(arguments{s: s, plan: examplePlan(), t: s.Tasks[0], begins: make([][]int, 1000)})
			}
		}
	}
	for _, text := range []string{"\x00", "\xff\xfe\n", "benches\n", " \n", "benches  \n", "benches \xff\n", "\n\n", closedLine, benchesLine + "order : -\n", benchesLine + "order 1 1 :-\n", strings.Repeat(" ", 300), strings.Repeat(":", 300), strings.Repeat("-", 300)} {
		callAll(arguments{text: text})
	}
}

// P1: the largest shops come to an end, too.
func TestLargest(t *testing.T) {
	for _, s := range []api.Shop{largest(), of(3, task(0, 9, work(0, 1, 20), work(1, 2, 19)), task(1, 9, work(1, 3, 18), work(2, 4, 17)), task(2, 9, work(2, 5, 16), work(0, 6, 15)), task(3, 9, work(0, 7, 14), work(2, 8, 13)))} {
		less := api.Shop{Benches: 3, Tasks: s.Tasks[:3]}
		callAll(arguments{s: s, plan: []int{3, 2, 1, 0, 0, 1, 2, 3}, begins: [][]int{{0, 200}, {0, 200}, {0, 200}, {0, 200}}})
		callAll(arguments{s: less, plan: []int{2, 1, 0, 0, 1, 2}, t: s.Tasks[3]})
	}
}

// spare returns a list with room behind it, and the list with this room.
func spare[T any](list []T, behind T) (part, whole []T) {
	whole = append(slices.Clone(list), behind, behind, behind)
	return whole[:len(list)], whole
}

// some returns valid arguments.
func (d *dice) some(t *testing.T) arguments {
	s := d.shop(6, d.roll(1, 9))
	a := arguments{s: s, plan: d.plan(s)}
	a.begins, _ = timetable(t, s, a.plan)
	for range d.roll(1, 2) {
		a.t.Works = append(a.t.Works, work(d.roll(0, s.Benches-1), 1, d.roll(1, 9)))
	}
	a.text, _ = bench.Write(d.shop(8, 20))
	return a
}

// R4: arguments are not changed, nor is what lies behind them in memory.
func TestArgumentsStay(t *testing.T) {
	d := dice(21)
	for range 300 {
		a := d.some(t)
		behind := work(77, 77, 77)
		all := copyOf(a.s)
		for i, x := range a.s.Tasks {
			a.s.Tasks[i].Works, all.Tasks[i].Works = spare(x.Works, behind)
		}
		a.s.Tasks, all.Tasks = spare(a.s.Tasks, task(77, 77, behind))
		for i, x := range a.s.Tasks {
			all.Tasks[i].Works = x.Works[:len(x.Works)+3]
		}
		works, whole := spare(a.t.Works, behind)
		a.t.Works = works
		plan, order := spare(a.plan, 77)
		a.plan = plan
		begins, table := spare(a.begins, []int{77})
		a.begins = begins
		before, worksBefore, orderBefore := copyOf(all), slices.Clone(whole), slices.Clone(order)
		var tableBefore [][]int
		for _, hours := range table {
			tableBefore = append(tableBefore, slices.Clone(hours))
		}
		callAll(a)
		if !equal(all, before) || !slices.Equal(whole, worksBefore) || !slices.Equal(order, orderBefore) || !slices.EqualFunc(table, tableBefore, slices.Equal) {
			t.Fatal(a, all, before, whole, order, table)
		}
	}
}

// spoil changes all lists, and what lies behind them, too; no list may change with another one.
func spoil[T any](t *testing.T, lists [][]T, by T, same func(a, b T) bool) {
	t.Helper()
	var copies [][]T
	for _, list := range lists {
		copies = append(copies, slices.Clone(list))
	}
	for i, list := range lists {
		if !slices.EqualFunc(list, copies[i], same) {
			t.Fatal("two lists share memory", i, list, copies[i])
		}
		whole := list[:cap(list)]
		for at := range whole {
			whole[at] = by
		}
	}
}

// same tells whether two values are equal.
func same[T comparable](a, b T) bool { return a == b }

// R2, R4: nothing is kept, and results share no memory with arguments or with each other.
func TestResultsAreNew(t *testing.T) {
	d := dice(22)
	for range 300 {
		a := d.some(t)
		r := callAll(a)
		spoil(t, r.lists, -7, same)
		spoil(t, r.ranges, to(-7, -7), same)
		spoil(t, r.slots, api.Slot{Task: -7}, same)
		spoil(t, r.works, work(-7, -7, -7), same)
		spoil(t, r.tasks, task(-7, -7), func(a, b api.Task) bool { return a.Ready == b.Ready && a.Due == b.Due })
		if again := callAll(a); !slices.Equal(again.values, r.values) {
			t.Fatal(a, "a result shares memory")
		}
	}
}

// R4: a nil slice and an empty one are equal.
func TestEmptySlices(t *testing.T) {
	for _, benches := range []int{0, 1, 3} {
		one := callAll(arguments{s: of(benches)})
		two := callAll(arguments{s: api.Shop{Benches: benches, Tasks: []api.Task{}}, plan: []int{}, t: api.Task{Works: []api.Work{}}, begins: [][]int{}})
		if !slices.Equal(one.values, two.values) {
			t.Error(one.values, two.values)
		}
		one = callAll(arguments{s: of(benches, task(1, 2)), begins: [][]int{nil}})
		two = callAll(arguments{s: of(benches, api.Task{Ready: 1, Due: 2, Works: []api.Work{}}), plan: []int{}, begins: [][]int{{}}})
		if !slices.Equal(one.values, two.values) {
			t.Error(one.values, two.values)
		}
	}
}

// R2, R6: the same call has the same result, whatever was called before, and in whichever order maps are gone through.
func TestSameResults(t *testing.T) {
	d := dice(23)
	var all []arguments
	var before [][]any
	for range 200 {
		a := d.some(t)
		all, before = append(all, a), append(before, callAll(a).values)
	}
	for i, a := range slices.Backward(all) {
		for range 3 {
			if again := callAll(a).values; !slices.Equal(again, before[i]) {
				t.Fatal(a, again, before[i])
			}
		}
	}
}
