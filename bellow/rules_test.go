package bellow_test

import (
	"math"
	"slices"
	"strings"
	"testing"

	"musette/api"
	"musette/bellow"
)

// arguments is all that the functions of the package take.
type arguments struct {
	b        api.Bellow
	p        []api.Note
	ways     []int
	air, way int
	test     api.Leakage
	text     string
}

// callAll calls each function of the package with these arguments, and returns all that comes out of it, and lists of numbers and of ranges as they are.
func callAll(a arguments) (results []any, numbers [][]int, ranges [][]api.Range) {
	keep := func(list ...any) { results = append(results, list...) }
	lists := func(list []int, x api.Errno) {
		numbers = append(numbers, list)
		keep(len(list), x)
		for _, n := range list {
			keep(n)
		}
	}
	spans := func(list []api.Range, x api.Errno) {
		ranges = append(ranges, list)
		keep(len(list), x)
		for _, r := range list {
			keep(r)
		}
	}
	bellows := func(b api.Bellow, x api.Errno) {
		keep(b.Full, b.Air, len(b.Tests))
		spans(b.Corners, x)
		for _, t := range b.Tests {
			keep(t.Seconds, t.Lost)
			lists(t.Open, x)
		}
	}
	keep(bellow.Check(a.b), bellow.Piece(a.p))
	spans(bellow.Leaks(a.b))
	leak, x := bellow.Leak(a.b)
	keep(leak, x)
	lists(bellow.Most(a.b))
	held, x := bellow.Holds(a.b, a.air, a.way)
	keep(held, x)
	spans(bellow.Levels(a.b, a.p, a.ways))
	plays, x := bellow.Plays(a.b, a.p, a.ways)
	keep(plays, x)
	ways, turns, x := bellow.Turns(a.b, a.p)
	lists(ways, x)
	hope, some, x := bellow.Hope(a.b, a.p)
	lists(hope, x)
	stuck, x := bellow.Stuck(a.b, a.p)
	keep(turns, some, stuck, x)
	lists(bellow.Mend(a.b, a.p))
	lists(bellow.Rests(a.b, a.p))
	bellows(bellow.With(a.b, a.test))
	text, x := bellow.Write(a.b, a.p)
	keep(text, x)
	b, p, line, x := bellow.Read(a.text)
	bellows(b, x)
	keep(len(p), line)
	for _, n := range p {
		keep(n)
	}
	return results, numbers, ranges
}

// wild returns a bellows in which something is anything.
func wild(field, a, b int) api.Bellow {
	w := bellowsB()
	switch field {
	case 0:
		w.Full = a
	case 1:
		w.Air = to(a, b)
	case 2:
		w.Corners[1] = to(a, b)
	case 3:
		w.Corners = slices.Repeat([]api.Range{to(a, b)}, 1000)
	case 4:
		w.Tests[0].Open = []int{a, b}
	case 5:
		w.Tests[0].Open = slices.Repeat([]int{a, b}, 1000)
	case 6:
		w.Tests[0].Seconds = a
	case 7:
		w.Tests[0].Lost = to(a, b)
	case 8:
		w.Tests = slices.Repeat([]api.Leakage{lost(a, a, b, a)}, 1000)
	case 9:
		w = api.Bellow{Full: a, Air: to(b, b)}
	}
	return w
}

// P1, R5: whatever the arguments are, each function comes to an end and does not panic.
func TestAnyArguments(t *testing.T) {
	extremes := []int{math.MinInt, math.MinInt + 1, -1, 0, 1, 2, 7, 201, 401, math.MaxInt - 1, math.MaxInt}
	for _, a := range extremes {
		for _, b := range extremes {
			for field := range 11 {
				for _, p := range [][]api.Note{nil, pieceP(), {note(a, a, b)}, {note(1, b, a), note(a, 0, 0)}, slices.Repeat([]api.Note{rest(a, a, b)}, 1000)} {
					for _, ways := range [][]int{nil, {a, b}, {1, a, b}, slices.Repeat([]int{a}, 1000)} {
						callAll(arguments{b: wild(field, a, b), p: p, ways: ways, air: a, way: b, test: lost(a, a, b, a, b), text: strings.Repeat("full ", field)})
					}
				}
				callAll(arguments{b: wild(field, a, b), p: pieceP(), ways: []int{1, 2, 2}, air: 9, way: 2, test: lost(1, a, b, 0), text: "full 1 0-1\ntest 0 "})
			}
		}
	}
	for _, text := range []string{"\x00", "\xff\xfe\n", "full\n", " \n", "full  \n", "full \xff 1-1\n", "\n\n", "fine\n", "full 1 -\ntest + 1 1-1\n", strings.Repeat("+", 400), strings.Repeat("f", 400)} {
		callAll(arguments{text: text, p: make([]api.Note, 10000), ways: make([]int, 10000)})
	}
}

// P1: the largest bellows and pieces come to an end, too, whether they can be played or not.
func TestLargest(t *testing.T) {
	b, p := largest()
	for _, piece := range [][]api.Note{p, slices.Repeat([]api.Note{rest(1, 0, 9)}, 6), slices.Repeat([]api.Note{note(1, 0, 9)}, 6)} {
		for _, air := range []api.Range{to(0, 200), to(95, 105), to(0, 0), to(200, 200)} {
			b.Air = air
			text, _ := bellow.Write(b, piece)
			callAll(arguments{b: b, p: piece, ways: slices.Repeat([]int{1}, 6), way: 1, text: text})
		}
	}
}

// spare returns a list with room behind it, and the list with this room.
func spare[T any](list []T, behind T) (part, whole []T) {
	whole = append(slices.Clone(list), behind, behind, behind)
	return whole[:len(list)], whole
}

// some returns valid arguments.
func (d *dice) some() arguments {
	b, leaks := d.bellows()
	a := arguments{b: b, p: d.piece(5), air: d.roll(0, 9), way: d.roll(1, 2)}
	a.ways = d.ways(a.p)
	if len(leaks) > 0 {
		a.test = d.test(leaks)
	}
	a.text, _ = bellow.Write(a.b, a.p)
	return a
}

// R4: arguments are not changed, nor is what lies behind them in memory.
func TestArgumentsStay(t *testing.T) {
	d := dice(21)
	for range 300 {
		a := d.some()
		var wholes, before [][]int
		watch := func(list *[]int) {
			part, whole := spare(*list, 77)
			*list = part
			wholes, before = append(wholes, whole), append(before, slices.Clone(whole))
		}
		watch(&a.ways)
		watch(&a.test.Open)
		for i := range a.b.Tests {
			watch(&a.b.Tests[i].Open)
		}
		corners, allCorners := spare(a.b.Corners, to(7, 7))
		tests, allTests := spare(a.b.Tests, api.Leakage{Seconds: 77})
		p, allNotes := spare(a.p, api.Note{Seconds: 77})
		a.b.Corners, a.b.Tests, a.p = corners, tests, p
		wantCorners, wantTests, wantNotes := slices.Clone(allCorners), slices.Clone(allTests), slices.Clone(allNotes)
		callAll(a)
		if !slices.EqualFunc(wholes, before, slices.Equal[[]int]) || !slices.Equal(allCorners, wantCorners) || !slices.EqualFunc(allTests, wantTests, sameTest) || !slices.Equal(allNotes, wantNotes) {
			t.Fatal(a, wholes, before)
		}
	}
}

// spoil changes all of a list, and what lies behind it, too.
func spoil[T any](list []T, by T) {
	whole := list[:cap(list)]
	for i := range whole {
		whole[i] = by
	}
}

// R2, R4: nothing is kept, and results share no memory with arguments or with each other.
func TestResultsAreNew(t *testing.T) {
	d := dice(22)
	for range 300 {
		a := d.some()
		want, numbers, ranges := callAll(a)
		var copies [][]int
		for _, list := range numbers {
			copies = append(copies, slices.Clone(list))
		}
		for i, list := range numbers {
			spoil(list, -7)
			for k, other := range numbers[i+1:] {
				if !slices.Equal(other, copies[i+1+k]) {
					t.Fatal(a, "two lists share memory")
				}
			}
		}
		var spans [][]api.Range
		for _, list := range ranges {
			spans = append(spans, slices.Clone(list))
		}
		for i, list := range ranges {
			spoil(list, to(-7, -7))
			for k, other := range ranges[i+1:] {
				if !slices.Equal(other, spans[i+1+k]) {
					t.Fatal(a, "two lists of ranges share memory")
				}
			}
		}
		if again, _, _ := callAll(a); !slices.Equal(again, want) {
			t.Fatal(a, "a result shares memory")
		}
	}
	b := bellowsB()
	test := lost(5, 10, 10, 0)
	more, _ := bellow.With(b, test)
	spoil(more.Tests, api.Leakage{})
	if !equal(b, bellowsB()) || !sameTest(test, lost(5, 10, 10, 0)) {
		t.Error(b, test)
	}
	text, _ := bellow.Write(bellowsB(), pieceP())
	_, one, _, _ := bellow.Read(text)
	_, two, _, _ := bellow.Read(text)
	spoil(one, api.Note{})
	if !slices.Equal(two, pieceP()) {
		t.Error(two)
	}
}

// R4: a nil slice and an empty one are equal.
func TestEmptySlices(t *testing.T) {
	b := tight(9, 4, 5)
	other := b
	other.Corners, other.Tests = []api.Range{}, []api.Leakage{}
	one, _, _ := callAll(arguments{b: b, way: 1})
	two, _, _ := callAll(arguments{b: other, p: []api.Note{}, ways: []int{}, way: 1, test: api.Leakage{Open: []int{}}})
	if !slices.Equal(one, two) {
		t.Error(one, two)
	}
}

// R2, R6: the same call has the same result, whatever was called before.
func TestSameResults(t *testing.T) {
	d := dice(23)
	var all []arguments
	var before [][]any
	for range 300 {
		a := d.some()
		results, _, _ := callAll(a)
		all, before = append(all, a), append(before, results)
	}
	for i, a := range slices.Backward(all) {
		if again, _, _ := callAll(a); !slices.Equal(again, before[i]) {
			t.Fatal(a, again, before[i])
		}
	}
}
