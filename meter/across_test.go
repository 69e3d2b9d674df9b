package meter_test

import (
	"testing"

	"musette/api"
	"musette/meter"
	"musette/reed"
)

// due is the tone of a tongue that is tuned; a cent is a hundredth of a hertz here.
const due = 44007

// job returns a tongue that a tuner may be able to tune.
func (d *dice) job() api.Job {
	around := func(n, width int) api.Range {
		least := d.roll(n, n+2)
		return to(least, least+d.roll(0, width))
	}
	least := d.roll(-12, 6)
	return api.Job{
		Tongue: api.Tongue{Pitch: to(least, least+d.roll(0, 14)), Tip: to(30, 31), Root: to(30, 32)},
		File:   api.File{Up: around(1, 2), Down: around(1, 2), TipWear: to(1, d.roll(1, 2)), RootWear: to(1, 2), Least: d.roll(20, 29)},
		Shifts: []api.Range{to(-d.roll(0, 1), d.roll(0, 1))},
		Within: d.roll(3, 8),
		Meter:  d.roll(0, 6),
	}
}

// counted returns what is known of a pitch after a count over some seconds that shows one of the numbers that it may show.
func (d *dice) counted(t *testing.T, slack, pitch int, known api.Range, seconds int) api.Range {
	t.Helper()
	e := api.Ear{Slack: slack, Tones: []api.Range{to(due+known.Min, due+known.Max)}}
	for {
		shown := (due+pitch)*seconds/100 + d.roll(-5, 5)
		r := count(0, seconds, shown, shown)
		if !isTrue(slack, r, []int{due + pitch}) {
			continue
		}
		next := must[api.Ear](t)(meter.With(e, r))
		tones := must[[]api.Range](t)(meter.Tones(next))
		return to(tones[0].Min-due, tones[0].Max-due)
	}
}

// tuned plays a tuner who counts over Gate seconds ahead of each stroke, and returns how many strokes are made; false if there is no such gate.
func (d *dice) tuned(t *testing.T, j api.Job, slack, width int) (int, bool) {
	t.Helper()
	pitch := d.roll(j.Pitch.Min, j.Pitch.Max)
	for strokes := 0; ; strokes++ {
		gate, x := meter.Gate(api.Ear{Slack: slack, Tones: []api.Range{to(due+j.Pitch.Min, due+j.Pitch.Max)}}, 0, width)
		if x != api.OK {
			return 0, false
		}
		j.Pitch = d.counted(t, slack, pitch, j.Pitch, gate)
		stroke, _, x := reed.Next(j)
		if x != api.OK {
			t.Fatal(j, slack, width, x)
		}
		if stroke == 0 {
			if v := must[int](t)(reed.Passes(j)); v != api.Always {
				t.Fatal(j, slack, width, v)
			}
			return strokes, true
		}
		j.Tongue = must[api.Tongue](t)(reed.After(j, []int{stroke}))
		if stroke == api.StrokeTip {
			pitch += d.roll(j.Up.Min, j.Up.Max)
		} else {
			pitch -= d.roll(j.Down.Min, j.Down.Max)
		}
	}
}

// T1: a tuner who counts over Gate seconds needs no more strokes than Guided says for a meter that errs by half of the width, and the tongue then passes.
func TestGauged(t *testing.T) {
	d := dice(41)
	var met [api.MaxGame + 1]int
	for range 6000 {
		j := d.job()
		slack, width := d.roll(0, 1), d.roll(3, 12)
		j.Meter = (width + 1) / 2
		guided, x := reed.Guided(j)
		if x == api.ErrNone {
			continue
		}
		for range 3 {
			strokes, ok := d.tuned(t, j, slack, width)
			if strokes > guided {
				t.Fatal(j, slack, width, strokes, guided)
			}
			if ok {
				met[strokes]++
			}
		}
	}
	if min(met[0], met[1], met[2], met[3]) < 20 {
		t.Error("a number is too rare", met)
	}
}

// strokesOf returns how many strokes are needed, 99 if there is no way.
func strokesOf(t *testing.T, n int, x api.Errno) int {
	t.Helper()
	if x == api.ErrNone {
		return 99
	}
	return must[int](t)(n, x)
}

// T12: a count more never changes a verdict that is Always or Never, and never makes more strokes needed.
func TestHeard(t *testing.T) {
	d := dice(42)
	sure := 0
	for range 4000 {
		before := d.job()
		pitch := d.roll(before.Pitch.Min, before.Pitch.Max)
		after := before
		after.Pitch = d.counted(t, d.roll(0, 3), pitch, before.Pitch, d.roll(1, 20))
		strokes := []int{api.StrokeTip, api.StrokeRoot, api.StrokeTip}[d.roll(0, 2):]
		for i, verdict := range []func(api.Job) (int, api.Errno){
			reed.Passes,
			func(j api.Job) (int, api.Errno) { return reed.Spoiled(j, strokes) },
			func(j api.Job) (int, api.Errno) { return reed.Fine(j, strokes) },
		} {
			one, other := must[int](t)(verdict(before)), must[int](t)(verdict(after))
			if one != api.Either && other != one {
				t.Fatal(i, before, after, strokes, one, other)
			}
			if one == api.Either && other != one {
				sure++
			}
		}
		for i, needed := range []func(api.Job) (int, api.Errno){
			reed.Guided,
			func(j api.Job) (int, api.Errno) { l, x := reed.Shortest(j); return len(l), x },
			func(j api.Job) (int, api.Errno) { _, n, x := reed.Next(j); return n, x },
		} {
			one, x := needed(before)
			other, y := needed(after)
			if strokesOf(t, other, y) > strokesOf(t, one, x) {
				t.Fatal(i, before, after, one, other)
			}
		}
	}
	if sure < 100 {
		t.Error("a count seldom makes anything sure", sure)
	}
}
