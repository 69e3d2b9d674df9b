package meter_test

import (
	"math"
	"slices"
	"strings"
	"testing"

	"musette/api"
	"musette/meter"
)

// callAll calls each function of the package with these arguments, and returns all that comes out of it.
func callAll(e api.Ear, a, b int, want api.Range, r api.Reading, gates []int, text string) []any {
	var results []any
	keep := func(list ...any) { results = append(results, list...) }
	keepRanges := func(list []api.Range, x api.Errno) {
		for _, r := range list {
			keep(r)
		}
		keep(x)
	}
	keepNumbers := func(list []int, x api.Errno) {
		for _, n := range list {
			keep(n)
		}
		keep(x)
	}
	keepEar := func(e api.Ear) {
		keep(e.Slack)
		keepRanges(e.Tones, api.OK)
		for _, r := range e.Readings {
			keep(r)
		}
	}
	keepNumber := func(n int, x api.Errno) { keep(n, x) }
	keep(meter.Check(e))
	keepNumber(meter.Truths(e))
	keepRanges(meter.Tones(e))
	keepNumbers(meter.Values(e, a))
	keepNumber(meter.Within(e, a, want))
	keepNumber(meter.Higher(e, a, b))
	beats, x := meter.Beats(e, a, b, want.Max)
	keep(beats, x)
	keepNumbers(meter.False(e))
	keepNumbers(meter.Doubted(e))
	next, x := meter.With(e, r)
	keepEar(next)
	keep(x)
	keepNumber(meter.Worst(e, r))
	best, n, x := meter.Best(e, gates)
	keep(best, n, x)
	keepNumber(meter.Gate(e, a, want.Min))
	keepNumber(meter.Needs(e, a, want, gates))
	written, x := meter.Write(e)
	keep(written, x)
	read, line, x := meter.Read(text)
	keepEar(read)
	keep(line, x)
	return results
}

// P1, R5: whatever the arguments are, each function comes to an end and does not panic.
func TestAnyArguments(t *testing.T) {
	extremes := []int{math.MinInt, math.MinInt + 1, -1, 0, 1, 3, 21, 100001, math.MaxInt - 1, math.MaxInt}
	for _, m := range extremes {
		for _, n := range extremes {
			wild := api.Reading{Kind: m, A: n, B: m, Seconds: n, Shown: to(m, n)}
			for i := range 8 {
				e := three()
				r := wild
				switch i {
				case 0:
					e.Slack = m
				case 1:
					e.Tones[2] = to(m, n)
				case 2:
					e.Tones = slices.Repeat([]api.Range{to(m, n)}, 1000)
				case 3:
					e.Readings = slices.Repeat([]api.Reading{wild}, 1000)
				case 4:
					e.Readings[1] = wild
				case 5:
					r = count(0, n, m, n)
				case 6:
					r = beat(0, m, n, m, n)
				}
				callAll(e, m, n, to(n, m), r, []int{m, n}, strings.Repeat("tone [", i*9))
				callAll(e, 0, 1, to(m, n), r, []int{1, n}, "")
			}
		}
	}
	for _, text := range []string{"\x00", "\xff\xfe\n", "slack \xff\n", "slack 0\ntone\n", "slack 0\ncount\n", "slack 0\ntone [\n", "slack 0\ntone ]\n", "slack 0\ntone ][\n", "slack 0\ntone [,\n", "slack 0\nbeat ,\n", strings.Repeat("[", 400), strings.Repeat(",", 400)} {
		callAll(api.Ear{}, 0, 0, to(0, 0), api.Reading{}, make([]int, 10000), text)
	}
}

// P1: the widest ears, and the meters that err most, come to an end, too.
func TestWidestEars(t *testing.T) {
	wide := to(44000, 44020)
	for slack := range 4 {
		e := api.Ear{Slack: slack, Tones: []api.Range{wide, wide, wide}}
		for _, gates := range [][]int{{1}, {1, 2, 3}, {18, 19, 20}} {
			for _, want := range []api.Range{to(44020, 44020), to(44000, 44010), to(44000, 44020)} {
				if n, x := meter.Needs(e, 0, want, gates); x == api.OK && n > 2 || x != api.OK && x != api.ErrNone {
					t.Error(slack, gates, want, n, x)
				}
			}
			if _, n, x := meter.Best(e, gates); x != api.OK || n < 1 || n > 9261 {
				t.Error(slack, gates, n, x)
			}
		}
	}
}

// spare returns a list with room behind it, and the list with this room.
func spare[T any](list []T, behind T) (part, whole []T) {
	whole = append(slices.Clone(list), behind, behind, behind)
	return whole[:len(list)], whole
}

// R4: arguments are not changed, nor is what lies behind them in memory.
func TestArgumentsStay(t *testing.T) {
	d := dice(30)
	for range 300 {
		e := d.ear(size{tongues: 3, width: 4, readings: 5})
		tones, allTones := spare(e.Tones, to(99, 99))
		readings, allReadings := spare(e.Readings, api.Reading{Kind: 99})
		gates, allGates := spare(d.gates(3), 99)
		e.Tones, e.Readings = tones, readings
		wantTones, wantReadings, wantGates := slices.Clone(allTones), slices.Clone(allReadings), slices.Clone(allGates)
		callAll(e, 0, 1, e.Tones[0], count(0, 5, 0, 0), gates, "")
		callAll(e, 0, 1, e.Tones[0], d.reading(e, column(make([][]int, 3), func([]int) int { return e.Tones[0].Min })), gates, "")
		if !slices.Equal(allTones, wantTones) || !slices.Equal(allReadings, wantReadings) || !slices.Equal(allGates, wantGates) {
			t.Fatal(allTones, allReadings, allGates)
		}
	}
}

// R2, R4: nothing is kept, and results share no memory with arguments or with each other.
func TestResultsAreNew(t *testing.T) {
	e, r := earE(), higher(1, 0)
	spoil := func(e api.Ear) {
		for i := range e.Tones {
			e.Tones[i] = to(9, 9)
		}
		for i := range e.Readings {
			e.Readings[i] = higher(9, 9)
		}
	}
	one, _ := meter.With(e, r)
	two, _ := meter.With(e, r)
	spoil(one)
	if three, _ := meter.With(e, r); !equal(e, earE()) || !equal(two, three) || len(three.Readings) != 3 {
		t.Error(e, two, three)
	}
	text, _ := meter.Write(e)
	one, _, _ = meter.Read(text)
	two, _, _ = meter.Read(text)
	spoil(one)
	if three, _, _ := meter.Read(text); !equal(two, earE()) || !equal(three, earE()) {
		t.Error(two, three)
	}
	for i, of := range []func() ([]int, api.Errno){
		func() ([]int, api.Errno) { return meter.Values(e, 0) },
		func() ([]int, api.Errno) { return meter.False(earF()) },
		func() ([]int, api.Errno) { return meter.Doubted(earF()) },
	} {
		one, _ := of()
		two, _ := of()
		for j := range one {
			one[j] = -1
		}
		if three, _ := of(); slices.Contains(two, -1) || !slices.Equal(two, three) {
			t.Error(i, two, three)
		}
	}
}

// R2, R6: the same call has the same result, whatever was called before.
func TestSameResults(t *testing.T) {
	d := dice(31)
	var ears []api.Ear
	var before [][]any
	call := func(e api.Ear) []any {
		text, _ := meter.Write(e)
		return callAll(e, 0, 1, to(e.Tones[0].Min, e.Tones[0].Min+1), higher(1, 0), []int{7, 20}, text)
	}
	for range 200 {
		e := d.ear(small)
		ears = append(ears, e)
		before = append(before, call(e))
	}
	for i, e := range slices.Backward(ears) {
		if again := call(e); !slices.Equal(again, before[i]) {
			t.Fatal(e, again, before[i])
		}
	}
}
