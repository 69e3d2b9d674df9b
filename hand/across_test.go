package hand_test

import (
	"testing"

	"musette/api"
	"musette/hand"
	"musette/meter"
	"musette/reed"
)

// jobOf returns a tongue as a job that has to be within a skill; a cent is a hundredth of a hertz here.
func jobOf(deviation api.Range, skill int) api.Job {
	return api.Job{Tongue: api.Tongue{Pitch: deviation}, Within: skill}
}

// T6: no hand need have drifted just if each tongue may pass as a job that has to be within the skill; if some tongue never passes, some hand drifts in each explanation.
func TestSteady(t *testing.T) {
	d := dice(31)
	met := map[bool]int{}
	for range 4000 {
		r := d.roster()
		may, inReach := true, true
		for _, deviation := range must[[]api.Range](t)(hand.Deviations(r)) {
			if max(-deviation.Min, deviation.Max) > api.MaxCents {
				inReach = false
				continue
			}
			if must[int](t)(reed.Passes(jobOf(deviation, r.Skill))) == never {
				may = false
			}
		}
		if !inReach {
			continue
		}
		met[may]++
		if is := must[bool](t)(hand.Explains(r, nil)); is != may {
			t.Fatal(r, is, may)
		}
		for _, list := range fewestOf(t, r) {
			if (len(list) == 0) != may {
				t.Fatal(r, list, may)
			}
		}
	}
	if min(met[true], met[false]) < 500 {
		t.Error("too rare", met)
	}
}

// T14: deviations are what a meter tells of tongues, less what is due; one count more of a tongue never makes fewer hands drift, and adds no list of hands unless more of them drift.
func TestTuned(t *testing.T) {
	d := dice(32)
	met := map[bool]int{}
	for range 4000 {
		r, f := d.story()
		if len(r.Entries) == 0 {
			continue
		}
		for entry, deviation := range must[[]api.Range](t)(hand.Deviations(r)) {
			x := r.Entries[entry]
			if tones := must[[]api.Range](t)(meter.Tones(x.Ear)); tones[0] != to(deviation.Min+x.Due, deviation.Max+x.Due) {
				t.Fatal(r, entry, deviation, tones)
			}
		}
		at := d.roll(0, len(r.Entries)-1)
		tone := f.tones[at]
		if d.often(2) { // the count is true of a tone that the tongue can have
			tones := must[[]int](t)(meter.Values(r.Entries[at].Ear, 0))
			tone = tones[d.roll(0, len(tones)-1)]
		}
		ear := must[api.Ear](t)(meter.With(r.Entries[at].Ear, d.counted(r.Entries[at].Ear.Slack, tone)))
		met[checkNarrower(t, r, after(r, func(r *api.Roster) { r.Entries[at].Ear = ear }))]++
	}
	if met[true] < 20 || met[false] < 1000 {
		t.Error("too rare", met)
	}
}
