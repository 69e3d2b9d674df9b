package wax_test

import (
	"slices"
	"testing"

	"musette/api"
	"musette/bellow"
	"musette/wax"
)

// leaky returns a bellows with a corner for each joint, which leaks if the joint has failed by a week.
func leaky(t *testing.T, s api.Season, week int) (b api.Bellow, failed, sound int) {
	t.Helper()
	b = api.Bellow{Full: 9}
	for joint := range s.Joints {
		switch must[int](t)(wax.Failed(s, joint, week)) {
		case always:
			failed++
			b.Corners = append(b.Corners, to(1, 1))
		case never:
			sound++
			b.Corners = append(b.Corners, to(0, 0))
		default:
			b.Corners = append(b.Corners, to(0, 1))
		}
	}
	return b, failed, sound
}

// T9: if each joint that has failed makes a corner leak, as many corners leak at least as joints that always have failed, and at most as joints that may have.
func TestLeaky(t *testing.T) {
	d := dice(31)
	met := map[api.Range]int{}
	for range 3000 {
		s := d.season(1 << 30)
		if against(s) {
			continue
		}
		for week := range s.Heats {
			b, failed, sound := leaky(t, s, week)
			if r := must[api.Range](t)(bellow.Leak(b)); r != to(failed, len(s.Joints)-sound) {
				t.Fatal(s, week, b, r)
			}
			met[to(failed, sound)]++
		}
	}
	for _, r := range []api.Range{to(0, 0), to(1, 0), to(0, 1), to(1, 1), to(2, 1), to(3, 0), to(0, 3)} {
		if met[r] < 10 {
			t.Error("too rare", r, met)
		}
	}
}

// rivals returns a season in whose first week either the one joint melts, or the other one cracks.
func rivals(s api.Season) api.Season {
	s.Heats[0] = to(s.Heats[0].Min, s.Heats[0].Min+1)
	melts, cracks := waxen(s.Heats[0].Max, -50, 1, 9), waxen(100, s.Heats[0].Min, 1, 9)
	s.Joints, s.Reports = append([]api.Joint{melts, cracks}, s.Joints[:min(1, len(s.Joints))]...), nil
	return s
}

// T9: all joints that are sound leave the others to leak, as a test of all corners together tells, too.
func TestSoundLeak(t *testing.T) {
	d := dice(32)
	less := 0
	for range 3000 {
		s := d.season(1 << 30)
		if d.roll(0, 3) == 0 {
			s = rivals(s)
		}
		if against(s) || len(s.Joints) == 0 {
			continue
		}
		all := len(s.Joints)
		for week := range s.Heats {
			b, _, _ := leaky(t, s, week)
			sound := must[api.Range](t)(wax.Sound(s, week))
			leaks := to(all-sound.Max, all-sound.Min)
			var open []int
			for corner := range b.Corners {
				open = append(open, corner)
			}
			before := must[api.Range](t)(bellow.Leak(b))
			tested := must[api.Bellow](t)(bellow.With(b, api.Leakage{Open: open, Seconds: 1, Lost: leaks}))
			after := must[api.Range](t)(bellow.Leak(tested))
			if after != leaks || before.Min > after.Min || before.Max < after.Max {
				t.Fatal(s, week, sound, before, after)
			}
			if before != after {
				less++
			}
		}
	}
	if less < 100 {
		t.Error("too rare", less)
	}
}

// T9: a report that is right never makes the leak less known.
func TestReportedLeak(t *testing.T) {
	d := dice(33)
	better := 0
	for range 3000 {
		s := d.open(1 << 30)
		if len(s.Joints) == 0 {
			continue
		}
		x := d.truthOf(s)
		for range 3 {
			told := must[api.Season](t)(wax.With(s, d.rightReport(s, x)))
			for week := range s.Heats {
				one, _, _ := leaky(t, s, week)
				two, _, _ := leaky(t, told, week)
				before, after := must[api.Range](t)(bellow.Leak(one)), must[api.Range](t)(bellow.Leak(two))
				leaks := len(slices.DeleteFunc(slices.Clone(x.weeks), func(failure int) bool { return failure > week }))
				if after.Min < before.Min || after.Max > before.Max || !inside(leaks, after) {
					t.Fatal(s, told, week, before, after, leaks)
				}
				for corner, r := range must[[]api.Range](t)(bellow.Leaks(two)) {
					if old := one.Corners[corner]; r.Min < old.Min || r.Max > old.Max {
						t.Fatal(s, told, week, corner, r, old)
					}
				}
				if before != after {
					better++
				}
			}
			s = told
		}
	}
	if better < 500 {
		t.Error("too rare", better)
	}
}
