package reed_test

import (
	"math"
	"slices"
	"strings"
	"testing"

	"musette/api"
	"musette/reed"
)

// callAll calls each function of the package with these arguments, and returns all that comes out of it.
func callAll(j api.Job, strokes []int, reading int, jobs []api.Job, text string) []any {
	var all []any
	keep := func(results ...any) { all = append(all, results...) }
	keep(reed.Check(j))
	window, e := reed.Window(j)
	keep(window, e)
	passes, e := reed.Passes(j)
	keep(passes, e)
	heard, e := reed.Hear(j, reading)
	keep(heard, e)
	tongue, e := reed.After(j, strokes)
	keep(tongue, e)
	worst, e := reed.Worst(j, strokes)
	keep(worst, e)
	spoiled, e := reed.Spoiled(j, strokes)
	keep(spoiled, e)
	fine, e := reed.Fine(j, strokes)
	keep(fine, e)
	shortest, e := reed.Shortest(j)
	keep(len(shortest), e)
	guided, e := reed.Guided(j)
	keep(guided, e)
	stroke, left, e := reed.Next(j)
	keep(stroke, left, e)
	number, least, e := reed.Blank(jobs)
	keep(number, least, e)
	written, e := reed.Write(j)
	keep(written, e)
	read, line, e := reed.Read(text)
	keep(read.Tongue, read.File, len(read.Shifts), read.Within, read.Meter, line, e)
	return all
}

// P1, R5: whatever the arguments are, each function comes to an end and does not panic.
func TestAnyArguments(t *testing.T) {
	extremes := []int{math.MinInt, math.MinInt + 1, -61, -1, 0, 1, 61, math.MaxInt - 1, math.MaxInt}
	for _, a := range extremes {
		for _, b := range extremes {
			r := to(a, b)
			for field := range 10 {
				j := fourShifts()
				switch field {
				case 7:
					j.Shifts = []api.Range{r}
				case 8:
					j.Least, j.Within, j.Meter = a, b, a
				case 9:
					j.Shifts = slices.Repeat([]api.Range{r}, 1000)
				default:
					*fields()[field].of(&j) = r
				}
				callAll(j, []int{a, b, a, b}, a, []api.Job{j, jobJ()}, strings.Repeat("tongue ", 3+field*9))
			}
		}
	}
	for _, text := range []string{"\x00", "\xff\xfe\n", "tongue \xff:0 0:0 0:0\n", ":\n:\n:\n", strings.Repeat(":", 300), strings.Repeat(" ", 300), strings.Repeat("\n", 300)} {
		callAll(api.Job{}, make([]int, 10000), math.MaxInt, make([]api.Job, 10000), text)
	}
}

// P1, P1.5: games of the widest jobs come to an end, too.
func TestWidestGames(t *testing.T) {
	wide := api.Job{
		Tongue: api.Tongue{Pitch: to(-60, 60), Tip: to(0, 100), Root: to(0, 100)},
		File:   api.File{Up: to(0, 12), Down: to(0, 12), TipWear: to(0, 12), RootWear: to(0, 12)},
		Shifts: slices.Repeat([]api.Range{to(0, 0)}, 4),
		Meter:  6,
	}
	for within := range api.MaxCents + 1 {
		for up := range api.MaxEffect + 1 {
			j := wide
			j.Within, j.Up, j.Down = within, to(up, 12), to(up, 12)
			j.TipWear, j.RootWear = to(0, 0), to(0, 0)
			guided := guidedOf(t, j)
			if within == 60 && guided != 0 {
				t.Error("a tongue that passes needs strokes", up, guided)
			}
			if within < 6 && guided != none {
				t.Error("the meter is not good enough for this", within, up, guided)
			}
		}
	}
}

// spare returns a list with room behind it, and the list with this room.
func spare[T any](list []T, behind T) (part, whole []T) {
	whole = append(slices.Clone(list), behind, behind, behind)
	return whole[:len(list)], whole
}

// R4: arguments are not changed, nor is what lies behind them in memory.
func TestArgumentsStay(t *testing.T) {
	d := dice(13)
	for range 300 {
		j, list := d.job(2), d.strokes(6)
		shifts, allShifts := spare(j.Shifts, to(99, 99))
		strokes, allStrokes := spare(list, 99)
		j.Shifts = shifts
		jobs, allJobs := spare([]api.Job{j, jobJ(), j}, api.Job{Meter: 99})
		jobs[1].Shifts = slices.Clone(jobs[1].Shifts)
		wantShifts, wantStrokes, wantJobs := slices.Clone(allShifts), slices.Clone(allStrokes), slices.Clone(allJobs)
		callAll(j, strokes, d.roll(-9, 9), jobs, "")
		if !slices.Equal(allShifts, wantShifts) || !slices.Equal(allStrokes, wantStrokes) || !slices.EqualFunc(allJobs, wantJobs, equal) {
			t.Fatal(allShifts, allStrokes, allJobs)
		}
	}
}

// R2, R4: nothing is kept, and results share no memory.
func TestResultsAreNew(t *testing.T) {
	j := plain(-6, -6, 1, 1, 0, 0)
	one, _ := reed.Shortest(j)
	two, _ := reed.Shortest(j)
	for i := range one {
		one[i] = 7
	}
	three, _ := reed.Shortest(j)
	if want := []int{1, 1, 1, 1, 1, 1}; !slices.Equal(two, want) || !slices.Equal(three, want) {
		t.Error(two, three)
	}
	text, _ := reed.Write(jobJ())
	first, _, _ := reed.Read(text)
	second, _, _ := reed.Read(text)
	for i := range first.Shifts {
		first.Shifts[i] = to(7, 7)
	}
	third, _, _ := reed.Read(text)
	if !equal(second, jobJ()) || !equal(third, jobJ()) {
		t.Error(second, third)
	}
}

// R2, R6: the same call has the same result, whatever was called before.
func TestSameResults(t *testing.T) {
	d := dice(14)
	var jobs []api.Job
	var before [][]any
	call := func(j api.Job) []any {
		text, _ := reed.Write(j)
		return callAll(j, []int{1, 2}, j.Pitch.Min, []api.Job{j, jobK()}, text)
	}
	for range 200 {
		j := d.job(2)
		jobs = append(jobs, j)
		before = append(before, call(j))
	}
	for i, j := range slices.Backward(jobs) {
		if again := call(j); !slices.Equal(again, before[i]) {
			t.Fatal(j, again, before[i])
		}
	}
}

// The errors have the numbers that the document says, and each has a text.
func TestErrors(t *testing.T) {
	all := []api.Errno{api.OK, api.ErrValue, api.ErrText, api.ErrUnknown, api.ErrTwice, api.ErrOrder, api.ErrMany, api.ErrFew, api.ErrKind, api.ErrAgainst, api.ErrLong, api.ErrNone, api.ErrUnsure}
	texts := map[string]bool{}
	for i, e := range all {
		if int(e) != i || e.Error() == "" || texts[e.Error()] {
			t.Error(i, int(e), e.Error())
		}
		texts[e.Error()] = true
	}
	if api.Always != 1 || api.Never != 2 || api.Either != 3 {
		t.Error(api.Always, api.Never, api.Either)
	}
}
