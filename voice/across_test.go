package voice_test

import (
	"slices"
	"testing"

	"musette/api"
	"musette/meter"
	"musette/reed"
	"musette/rod"
	"musette/voice"
)

// filed plays a tuner who files an upper tongue by the strokes of Next, with a meter that is read ahead of each, and returns what is known of its pitch in the end, and how many strokes were made.
func (d *dice) filed(t *testing.T, j api.Job) (api.Range, int) {
	t.Helper()
	pitch := d.roll(j.Pitch.Min, j.Pitch.Max)
	for strokes := 0; ; strokes++ {
		reading := pitch + d.roll(-j.Meter, j.Meter)
		if d.roll(0, 1) == 0 { // the worst readings are those that are off by most
			reading = pitch + j.Meter*(2*d.roll(0, 1)-1)
		}
		j.Pitch = must[api.Range](t)(reed.Hear(j, reading))
		stroke, _, x := reed.Next(j)
		if x != api.OK {
			t.Fatal(j, x)
		}
		if stroke == 0 {
			return j.Pitch, strokes
		}
		j.Tongue = must[api.Tongue](t)(reed.After(j, []int{stroke}))
		if stroke == api.StrokeTip {
			pitch += d.roll(j.Up.Min, j.Up.Max)
		} else {
			pitch -= d.roll(j.Down.Min, j.Down.Max)
		}
	}
}

// T2: if the upper tongue of a pair is filed by the strokes of Next, the pair always keeps the law with what is known then; this takes at most as many strokes as Strokes says.
func TestPaired(t *testing.T) {
	d := dice(31)
	var met [api.MaxGame + 1]int
	for range 4000 {
		b := d.box()
		for low := range b.Lows {
			for high := range b.Highs {
				most, x := voice.Strokes(b, low, high)
				if x != api.OK {
					continue
				}
				pitch, strokes := d.filed(t, must[api.Job](t)(voice.Job(b, low, high)))
				if strokes > most {
					t.Fatal(b, low, high, strokes, most)
				}
				other := copyOf(b)
				other.Highs[high].Tone = raised(pitch, dueAt(b.Law, b.Note))
				if voice.Check(other) != api.OK { // it may be higher than a tongue of a box can be
					continue
				}
				if v := must[int](t)(voice.Keeps(other, low, high)); v != api.Always {
					t.Fatal(b, low, high, pitch, strokes, v)
				}
				met[strokes]++
			}
		}
	}
	if min(met[0], met[1], met[2], met[3], met[4]) < 10 {
		t.Error("a number is too rare", met)
	}
}

// scaleOf returns a scale with a row for each lever of a machine.
func (d *dice) scaleOf(levers int) api.Scale {
	for {
		if s := d.scale(6, 2); len(s.Rows) == levers {
			return s
		}
	}
}

// machine returns a valid machine with as many levers as a scale can have rows, most of which some buttons lift.
func (d *dice) machine() api.Machine {
	m := api.Machine{Rods: d.roll(2, 5), Levers: d.roll(2, 4), Registers: 1, Travel: 8, Open: 2}
	m.Weights = make([]int, m.Levers)
	for range d.roll(2, 4) {
		m.Buttons = append(m.Buttons, d.roll(0, m.Rods-1))
	}
	for range d.roll(3, 8) {
		m.Pins = append(m.Pins, api.Pin{Rod: d.roll(0, m.Rods-1), Lever: d.roll(0, m.Levers-1), Lag: d.roll(0, 4)})
	}
	from := d.roll(0, m.Rods-1)
	m.Links = append(m.Links, api.Link{From: from, To: (from + 1) % m.Rods, Register: d.roll(-1, 0), Lag: d.roll(1, 3)})
	return m
}

// hand returns a hand of a machine, and the events that lead to it in some order.
func (d *dice) hand(m api.Machine) (api.Hand, []api.Event) {
	h := api.Hand{Buttons: d.set(len(m.Buttons)), On: d.set(m.Registers)}
	var events []api.Event
	add := func(e api.Event) { events = slices.Insert(events, d.roll(0, len(events)), e) }
	for _, button := range h.Buttons {
		add(api.Event{Kind: api.EventPress, Which: button})
	}
	for _, register := range h.On {
		add(api.Event{Kind: api.EventOn, Which: register})
	}
	return h, events
}

// faultOf returns the number of a fault of a lever.
func faultOf(t *testing.T, m api.Machine, kind, lever int) int {
	t.Helper()
	return slices.Index(must[[]api.Fault](t)(rod.Faults(m)), api.Fault{Kind: kind, Which: lever})
}

// T3: if the levers that sound open rows, the same notes keep the law in whichever order buttons are pressed.
func TestOpenedInAnyOrder(t *testing.T) {
	d := dice(32)
	for range 1500 {
		m := d.machine()
		s := d.scaleOf(m.Levers)
		h, events := d.hand(m)
		want := must[[]int](t)(voice.Tremolo(s, must[[]int](t)(rod.Sounds(m, h))))
		sounds := must[[][]int](t)(rod.Play(m, events))
		if len(events) > 0 {
			if l := must[[]int](t)(voice.Tremolo(s, sounds[len(sounds)-1])); !slices.Equal(l, want) {
				t.Fatal(m, s, events, l, want)
			}
		}
	}
}

// T3: if the lever of the first or of the last open row stays shut, no note that always kept the law ceases to; if a lever before or behind all open rows stays open, no note that never kept it begins to.
func TestOpenedWithFaults(t *testing.T) {
	d := dice(33)
	shut, open := map[int]int{}, map[int]int{}
	for range 4000 {
		m := d.machine()
		s := d.scaleOf(m.Levers)
		h, _ := d.hand(m)
		register := must[[]int](t)(rod.Sounds(m, h))
		if len(register) == 0 {
			continue
		}
		whole := must[[]int](t)(voice.Tremolo(s, register))
		with := func(kind, lever int) []int {
			sounds := must[[]int](t)(rod.Broken(m, []int{faultOf(t, m, kind, lever)}, h))
			return must[[]int](t)(voice.Tremolo(s, sounds))
		}
		for _, lever := range []int{register[0], register[len(register)-1]} {
			for note, v := range with(api.FaultShut, lever) {
				if whole[note] == api.Always && v != api.Always {
					t.Fatal(m, s, h, lever, note, v)
				}
				if len(register) > 2 {
					shut[whole[note]]++
				}
			}
		}
		for lever := range m.Levers {
			if lever > register[0] && lever < register[len(register)-1] {
				continue
			}
			for note, v := range with(api.FaultOpen, lever) {
				if whole[note] == api.Never && v != api.Never {
					t.Fatal(m, s, h, lever, note, v)
				}
				if !slices.Contains(register, lever) {
					open[whole[note]]++
				}
			}
		}
	}
	if min(shut[api.Always], open[api.Never]) < 100 {
		t.Error("too rare", shut, open)
	}
}

// T13: the beats of two tongues without pressure are just those that an ear of both hears in so many seconds, and the upper one is higher just if its beat is above 0.
func TestBeats(t *testing.T) {
	d := dice(34)
	const tone = 44000
	met := map[int]int{}
	for range 4000 {
		b := d.box()
		for low := range b.Lows {
			for high := range b.Highs {
				beats := must[[]api.Range](t)(voice.Beat(b, low, high))[0]
				e := api.Ear{Tones: []api.Range{raised(b.Lows[low].Tone, tone), raised(b.Highs[high].Tone, tone)}}
				seconds := d.roll(1, api.MaxSeconds)
				heard := to(999, -999)
				above, below := 0, 0
				for beat := beats.Min; beat <= beats.Max; beat++ {
					n := max(beat, -beat) * seconds / 100
					heard = to(min(heard.Min, n), max(heard.Max, n))
					if beat > 0 {
						above++
					} else {
						below++
					}
				}
				if r := must[api.Range](t)(meter.Beats(e, 0, 1, seconds)); r != heard {
					t.Fatal(b, low, high, seconds, r, heard)
				}
				v := must[int](t)(meter.Higher(e, 1, 0))
				if v != verdictOf(above, below) {
					t.Fatal(b, low, high, v, beats)
				}
				met[v]++
			}
		}
	}
	if min(met[api.Always], met[api.Never], met[api.Either]) < 100 {
		t.Error("too rare", met)
	}
}
