package batch_test

import (
	"math"
	"slices"
	"strings"
	"testing"

	"musette/api"
	"musette/batch"
)

// arguments is all that the functions of the package take.
type arguments struct {
	j           api.Journal
	list, other []int
	s           api.Shop
	plan        []int
	text        string
}

// results is all that comes out of the functions: values, and lists as they are.
type results struct {
	values []any
	lists  [][]int
	ranges [][]api.Range
	tables [][][]int
	bins   [][]bool
	moves  [][]api.Move
}

func (r *results) keep(values ...any) { r.values = append(r.values, values...) }

// keepList keeps a list, and its values.
func keepList[T comparable](r *results, lists *[][]T, list []T, e api.Errno) {
	*lists = append(*lists, list)
	r.keep(len(list), e)
	for _, item := range list {
		r.keep(item)
	}
}

func (r *results) list(list []int, e api.Errno) { keepList(r, &r.lists, list, e) }

func (r *results) span(list []api.Range, e api.Errno) { keepList(r, &r.ranges, list, e) }

func (r *results) journal(j api.Journal, e api.Errno) {
	r.keep(j.Instruments)
	keepList(r, &r.bins, j.First, e)
	keepList(r, &r.moves, j.Moves, e)
}

// callAll calls each function of the package with these arguments.
func callAll(a arguments) results {
	var r results
	is, e := batch.Stands(a.j)
	r.keep(batch.Check(a.j), is, e)
	r.span(batch.Left(a.j))
	r.span(batch.Rest(a.j))
	holds, e := batch.Holds(a.j)
	r.tables = append(r.tables, holds)
	for _, verdicts := range holds {
		r.list(verdicts, e)
	}
	for _, n := range append([]int{0, 1}, a.list...) {
		amount, e := batch.Amount(a.j, n, 0)
		other, x := batch.Amount(a.j, 0, n)
		r.keep(amount, e, other, x)
	}
	r.list(batch.Has(a.j, a.list))
	r.list(batch.Recall(a.j, a.list))
	r.list(batch.Suspects(a.j, a.list, a.other))
	r.list(batch.Mixed(a.j))
	r.list(batch.Wrong(a.j))
	r.journal(batch.Works(a.j, a.s, a.plan))
	text, e := batch.Write(a.j)
	j, line, x := batch.Read(a.text)
	r.keep(text, e, line)
	r.journal(j, x)
	return r
}

// wild returns a journal in which something is anything.
func wild(field, a, b int) api.Journal {
	j := journalK()
	switch field {
	case 0:
		j.Instruments = a
	case 1:
		j.Moves[0].Amount, j.Moves[1].Bin = to(a, b), b
	case 2:
		j.Moves[2].Amount = to(a, b)
	case 3:
		j.Moves[3].Bin, j.Moves[3].Instrument = a, b
	case 4:
		j.Moves[4].Instrument, j.Moves[4].Kind = a, b
	case 5:
		j.Moves[5].Amount = to(a, b)
	case 6:
		j.Moves = slices.Repeat([]api.Move{{Kind: a, Bin: b, Instrument: b, Amount: to(a, b)}}, 1000)
	case 7:
		j.First = make([]bool, 1000)
	}
	return j
}

// P1, R5: whatever the arguments are, each function comes to an end and does not panic.
func TestAnyArguments(t *testing.T) {
	numbers := []int{math.MinInt, math.MinInt + 1, -6, -2, -1, 0, 1, 2, 3, 4, 5, 6, 64, math.MaxInt - 1, math.MaxInt}
	for _, a := range numbers {
		for _, b := range numbers {
			for field := range 9 {
				j := wild(field, a, b)
				lists := [][]int{nil, {a, b}, {0, 1, a}, {0, 1}, slices.Repeat([]int{a}, 1000)}
				for i, list := range lists {
					s := shopOf(2, task(a, work(b, a, b)))
					callAll(arguments{j: j, list: list, other: lists[len(lists)-1-i], s: s, plan: list, text: strings.Repeat("in|", field)})
				}
				callAll(arguments{j: j, other: []int{a}, s: shopOf(2, task(0, work(0, 1, 1), work(1, 1, 1))), plan: []int{0, 0}, text: journalLine + "out|"})
			}
		}
	}
	for _, text := range []string{"\x00", "\xff\xfe\n", "journal\n", "|\n", "journal||\n", "journal|1|\xff\n", "\n\n", endLine, journalLine + "in||\n", journalLine + "out|?|?|?|?\n", strings.Repeat("|", 300), strings.Repeat("?", 300), "journal|1|" + strings.Repeat("f", 280) + "\n" + endLine} {
		callAll(arguments{text: text})
	}
}

// P1: the largest journals come to an end, too, and long lists that are not valid.
func TestLargest(t *testing.T) {
	for ins := 1; ins <= 4; ins++ {
		for _, bins := range []string{"f", "a", "fa", "aa"} {
			j := of(4, bins)
			for i := range ins {
				j.Moves = append(j.Moves, in(i%len(bins), 0, 5))
			}
			for i := range 10 - ins {
				j.Moves = append(j.Moves, out(i%len(bins), lost, 0, 5))
			}
			callAll(arguments{j: j, list: []int{0}, other: []int{1, 2, 3}})
			for i := ins + 2; i < 10; i++ {
				j.Moves[i] = count(0, i%6, i%6)
			}
			callAll(arguments{j: j})
		}
	}
	const many = 1 << 18
	callAll(arguments{j: of(1, "f", make([]api.Move, many)...)})
	callAll(arguments{j: of(1, "f", slices.Repeat([]api.Move{in(0, 0, 0)}, many)...)})
	callAll(arguments{j: of(1, "f", slices.Repeat([]api.Move{count(0, 0, 0)}, many)...)})
	callAll(arguments{j: journalJ(), list: make([]int, many), other: make([]int, many)})
}

// spare returns a list with room behind it, and the list with this room.
func spare[T any](list []T, behind T) (part, whole []T) {
	whole = append(slices.Clone(list), behind, behind, behind)
	return whole[:len(list)], whole
}

// some returns valid arguments.
func (d *dice) some() arguments {
	a := arguments{j: d.journal(d.roll(0, 9), d.roll(1, 5), d.roll(0, 2))}
	a.list, a.other = d.set(batchesOf(a.j)), d.set(a.j.Instruments)
	a.s, a.plan = d.shop(len(a.j.First), a.j.Instruments, 10-len(a.j.Moves))
	a.text, _ = batch.Write(d.journal(d.roll(0, 10), 5, 2))
	return a
}

// R4, R8: arguments are not changed, nor is what lies behind them in memory.
func TestArgumentsStay(t *testing.T) {
	d := dice(21)
	for range 300 {
		a := d.some()
		var bins []bool
		var moves []api.Move
		var list, other, plan []int
		var tasks []api.Task
		a.j.First, bins = spare(a.j.First, true)
		a.j.Moves, moves = spare(a.j.Moves, in(77, 77, 77))
		a.list, list = spare(a.list, 77)
		a.other, other = spare(a.other, 77)
		a.plan, plan = spare(a.plan, 77)
		a.s.Tasks, tasks = spare(a.s.Tasks, task(77))
		binsBefore, movesBefore := slices.Clone(bins), slices.Clone(moves)
		listBefore, otherBefore, planBefore := slices.Clone(list), slices.Clone(other), slices.Clone(plan)
		works := len(tasks[0].Works)
		callAll(a)
		if !slices.Equal(bins, binsBefore) || !slices.Equal(moves, movesBefore) || !slices.Equal(list, listBefore) || !slices.Equal(other, otherBefore) || !slices.Equal(plan, planBefore) || len(tasks[0].Works) != works {
			t.Fatal(a, bins, moves, list, other, plan)
		}
	}
}

// spoil changes all lists, and what lies behind them, too; no list may change with another one.
func spoil[T any](t *testing.T, lists [][]T, by T, same func(a, b T) bool) {
	t.Helper()
	var copies [][]T
	for _, list := range lists {
		copies = append(copies, slices.Clone(list))
	}
	for i, list := range lists {
		if !slices.EqualFunc(list, copies[i], same) {
			t.Fatal("two lists share memory", i, list, copies[i])
		}
		whole := list[:cap(list)]
		for at := range whole {
			whole[at] = by
		}
	}
}

// same tells whether two values are equal.
func same[T comparable](a, b T) bool { return a == b }

// R2, R4: nothing is kept, and results share no memory with arguments or with each other.
func TestResultsAreNew(t *testing.T) {
	d := dice(22)
	for range 300 {
		a := d.some()
		a.j.First, a.j.Moves = slices.Grow(a.j.First, 5), slices.Grow(a.j.Moves, 20)
		r := callAll(a)
		spoil(t, r.lists, -7, same)
		spoil(t, r.ranges, to(-7, -7), same)
		spoil(t, r.tables, nil, slices.Equal)
		spoil(t, r.moves, in(-7, -7, -7), same)
		for _, bins := range r.bins {
			for i := range bins {
				bins[i] = !bins[i]
			}
		}
		if again := callAll(a); !slices.Equal(again.values, r.values) {
			t.Fatal(a, "a result shares memory")
		}
	}
}

// R4: a nil slice and an empty one are equal.
func TestEmptySlices(t *testing.T) {
	for instruments := range 3 {
		one := callAll(arguments{j: of(instruments, "f"), s: shopOf(1)})
		two := callAll(arguments{j: of(instruments, "f", []api.Move{}...), list: []int{}, other: []int{}, s: api.Shop{Benches: 1, Tasks: []api.Task{}}, plan: []int{}})
		if !slices.Equal(one.values, two.values) {
			t.Error(one.values, two.values)
		}
		one = callAll(arguments{j: api.Journal{Instruments: instruments}})
		two = callAll(arguments{j: api.Journal{Instruments: instruments, First: []bool{}, Moves: []api.Move{}}})
		if !slices.Equal(one.values, two.values) {
			t.Error(one.values, two.values)
		}
	}
}

// R2, R6: the same call has the same result, whatever was called before, and in whichever order maps are gone through.
func TestSameResults(t *testing.T) {
	d := dice(23)
	var all []arguments
	var before [][]any
	for range 200 {
		a := d.some()
		all, before = append(all, a), append(before, callAll(a).values)
	}
	for i, a := range slices.Backward(all) {
		for range 3 {
			if again := callAll(a).values; !slices.Equal(again, before[i]) {
				t.Fatal(a, again, before[i])
			}
		}
	}
}
