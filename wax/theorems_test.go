package wax_test

import (
	"slices"
	"testing"

	"musette/api"
	"musette/wax"
)

// inside tells whether a number is in a range.
func inside(n int, r api.Range) bool { return r.Min <= n && n <= r.Max }

// tells tells whether a verdict may be given if something is so in a truth, or is not.
func tells(verdict int, so bool) bool {
	if so {
		return verdict != never
	}
	return verdict != always
}

// checkTrue ends the test if what is said of a season does not allow a truth.
func checkTrue(t *testing.T, s api.Season, x truth) {
	t.Helper()
	for week, r := range must[[]api.Range](t)(wax.Weather(s, api.JointWax)) {
		if !inside(x.heats[week], r) || !inside(x.damps[week], must[[]api.Range](t)(wax.Weather(s, api.JointLeather))[week]) {
			t.Fatal(s, x, week, r)
		}
	}
	first := must[[]int](t)(wax.First(s))
	for joint, failure := range x.weeks {
		if !slices.Contains(must[[]int](t)(wax.Fails(s, joint)), failure) {
			t.Fatal(s, x, joint)
		}
		for cause, v := range must[[]int](t)(wax.Causes(s, joint)) {
			if !tells(v, x.causes[joint][cause]) {
				t.Fatal(s, x, joint, cause, v)
			}
		}
		if !tells(first[joint], failure < len(s.Heats) && failure == slices.Min(x.weeks)) {
			t.Fatal(s, x, joint, first)
		}
	}
	for week := range s.Heats {
		sound := 0
		for joint, failure := range x.weeks {
			if v := must[int](t)(wax.Failed(s, joint, week)); !tells(v, failure <= week) {
				t.Fatal(s, x, joint, week, v)
			}
			if failure > week {
				sound++
			}
		}
		if r := must[api.Range](t)(wax.Sound(s, week)); !inside(sound, r) {
			t.Fatal(s, x, week, sound, r)
		}
		if n := must[int](t)(wax.Unseen(s, []int{week})); n < unseenIn(x, []int{week}) {
			t.Fatal(s, x, week, n)
		}
	}
}

// P6.8: whatever the weather and the joints truly are, all that is said allows it, with reports that are right, too.
func TestTrue(t *testing.T) {
	d := dice(11)
	for range 1500 {
		s := d.open(1 << 30)
		x := d.truthOf(s)
		checkTrue(t, s, x)
		for range d.roll(0, 4) {
			if len(s.Joints) > 0 {
				s = must[api.Season](t)(wax.With(s, d.rightReport(s, x)))
			}
		}
		checkTrue(t, s, x)
		for wait := range 3 {
			looks := must[[]int](t)(wax.Inspect(s, wait))
			if unseenIn(x, looks) > wait || must[int](t)(wax.Unseen(s, looks)) > wait {
				t.Fatal(s, x, wait, looks)
			}
		}
		if len(must[[]int](t)(wax.Wrong(s))) > 0 {
			t.Fatal(s, x)
		}
	}
}

// P6.10: a joint that always has failed by a week has by each later one, and one that never has by no earlier one; more joints are never sound later.
func TestLater(t *testing.T) {
	d := dice(12)
	met := map[int]int{}
	for range 3000 {
		s := d.season(1 << 30)
		if against(s) {
			continue
		}
		for joint := range s.Joints {
			fails := must[[]int](t)(wax.Fails(s, joint))
			before := never
			for week := range s.Heats {
				v := must[int](t)(wax.Failed(s, joint, week))
				if before == always && v != always || before != never && v == never {
					t.Fatal(s, joint, week, before, v)
				}
				if (v == always) != (fails[len(fails)-1] <= week) || (v == never) != (fails[0] > week) {
					t.Fatal(s, joint, week, v, fails)
				}
				before = v
				met[v]++
			}
		}
		sound := to(len(s.Joints), len(s.Joints))
		for week := range s.Heats {
			r := must[api.Range](t)(wax.Sound(s, week))
			if r.Min > sound.Min || r.Max > sound.Max {
				t.Fatal(s, week, r, sound)
			}
			sound = r
		}
	}
	if min(met[always], met[never], met[either]) < 500 {
		t.Error("too rare", met)
	}
}

// better returns a season of which more is known: a truth of it is one of the first one, too.
func (d *dice) better(s api.Season, x truth) api.Season {
	s = copyOf(s)
	narrow := func(r *api.Range, n int) {
		if d.roll(0, 2) == 0 {
			*r = to(d.roll(r.Min, n), d.roll(n, r.Max))
		}
	}
	for week := range s.Heats {
		narrow(&s.Heats[week], x.heats[week])
		narrow(&s.Damps[week], x.damps[week])
	}
	return s
}

// P6.13: with narrower weather, narrower joints or a right report more, no week is added to Fails, and a verdict that is Always or Never stays.
func TestKnownBetter(t *testing.T) {
	d := dice(13)
	fewer, surer := 0, 0
	for range 10000 {
		s := d.season(1 << 30)
		if against(s) || len(s.Joints) == 0 {
			continue
		}
		other := d.better(s, d.truthOf(s))
		if j := &other.Joints[d.roll(0, len(s.Joints)-1)]; d.roll(0, 1) == 0 {
			j.High, j.Low, j.Weeks, j.Life = d.within(j.High), d.within(j.Low), d.within(j.Weeks), d.within(j.Life)
		}
		if d.roll(0, 1) == 0 {
			other.Reports = append(other.Reports, d.report(s))
		}
		if against(other) {
			continue
		}
		stays := func(before, after []int) {
			t.Helper()
			for i, v := range before {
				if v != either && after[i] != v {
					t.Fatal(s, other, before, after)
				}
				if v != after[i] {
					surer++
				}
			}
		}
		for joint := range s.Joints {
			before, after := must[[]int](t)(wax.Fails(s, joint)), must[[]int](t)(wax.Fails(other, joint))
			for _, week := range after {
				if !slices.Contains(before, week) {
					t.Fatal(s, other, joint, before, after)
				}
			}
			fewer += len(before) - len(after)
			stays(must[[]int](t)(wax.Causes(s, joint)), must[[]int](t)(wax.Causes(other, joint)))
			for week := range s.Heats {
				stays([]int{must[int](t)(wax.Failed(s, joint, week))}, []int{must[int](t)(wax.Failed(other, joint, week))})
			}
		}
		stays(must[[]int](t)(wax.First(s)), must[[]int](t)(wax.First(other)))
	}
	if min(fewer, surer) < 500 {
		t.Error("too rare", fewer, surer)
	}
}

// P6.14: if it is warmer, no joint of wax melts later, if it is colder, none cracks later; with leather it is the same with damp.
func TestWarmerAndColder(t *testing.T) {
	d := dice(14)
	earlier := map[bool]int{}
	for range 3000 {
		s := d.open(1 << 30)
		if len(s.Joints) == 0 {
			continue
		}
		joint, warmer := d.roll(0, len(s.Joints)-1), d.roll(0, 1) == 0
		j := &s.Joints[joint]
		by := d.roll(1, 5)
		if j.Life = to(9, 9); warmer { // it cannot crack, or not melt
			j.Low = to(-50, -50)
		} else {
			j.High, by = to(100, 100), -by
		}
		from := d.roll(0, len(s.Heats)-1)
		other := must[api.Season](t)(wax.Harder(s, j.Kind, from, d.roll(from, len(s.Heats)-1), by))
		before, after := must[[]int](t)(wax.Fails(s, joint)), must[[]int](t)(wax.Fails(other, joint))
		if after[0] > before[0] || after[len(after)-1] > before[len(before)-1] {
			t.Fatal(s, other, joint, before, after)
		}
		if !slices.Equal(before, after) {
			earlier[warmer]++
		}
	}
	if min(earlier[true], earlier[false]) < 200 {
		t.Error("too rare", earlier)
	}
}

// P6.14: twice a bit is as much as at once, and there and back is nothing but the reports.
func TestTwiceABit(t *testing.T) {
	d := dice(15)
	for range 2000 {
		s := d.season(1 << 30)
		kind, last := d.roll(1, 2), len(s.Heats)-1
		from := d.roll(0, last)
		end := d.roll(from, last)
		one, two := d.roll(-9, 9), d.roll(-9, 9)
		harder := func(s api.Season, from, end, by int) api.Season {
			return must[api.Season](t)(wax.Harder(s, kind, from, end, by))
		}
		if first := harder(s, from, end, one); !equal(harder(first, from, end, two), harder(s, from, end, one+two)) || !equal(harder(first, from, end, -one), without(s, []int{0, 1, 2})) {
			t.Fatal(s, kind, from, end, one, two)
		}
		if middle := d.roll(from, end); middle < end && !equal(harder(harder(s, from, middle, one), middle+1, end, one), harder(s, from, end, one)) {
			t.Fatal(s, kind, from, middle, end, one)
		}
	}
}

// P6.15: up to Margin the joint is safe, and one more is too much.
func TestMarginSafe(t *testing.T) {
	d := dice(16)
	met := map[int]int{}
	for range 4000 {
		s := d.season(1 << 30)
		if against(s) || len(s.Joints) == 0 {
			continue
		}
		joint, week := d.roll(0, len(s.Joints)-1), d.roll(0, len(s.Heats)-1)
		margin, e := wax.Margin(s, joint, week)
		if e == api.ErrNone {
			continue
		}
		for rise := 1; rise <= min(margin+1, 30); rise++ {
			warm := must[api.Season](t)(wax.Harder(s, s.Joints[joint].Kind, 0, len(s.Heats)-1, rise))
			if v := must[int](t)(wax.Failed(warm, joint, week)); (v == never) != (rise <= margin) {
				t.Fatal(s, joint, week, margin, rise, v)
			}
		}
		met[margin]++
	}
	if min(met[0], met[1], met[3], met[6]) < 20 {
		t.Error("too rare", met)
	}
}

// P6.16: joints of wax and joints of leather do not disturb each other.
func TestApart(t *testing.T) {
	d := dice(17)
	met := 0
	for range 3000 {
		s := d.season(1 << 30)
		if against(s) {
			continue
		}
		for _, kind := range []int{api.JointWax, api.JointLeather} {
			alone := api.Season{Heats: s.Heats, Damps: s.Damps}
			var numbers []int
			for joint, j := range s.Joints {
				if j.Kind == kind {
					numbers, alone.Joints = append(numbers, joint), append(alone.Joints, j)
				}
			}
			for _, r := range s.Reports {
				if at := slices.Index(numbers, r.Joint); at >= 0 {
					alone.Reports = append(alone.Reports, seen(at, r.Week, r.Failed))
				}
			}
			if !slices.Equal(must[[]api.Range](t)(wax.Weather(s, kind)), must[[]api.Range](t)(wax.Weather(alone, kind))) {
				t.Fatal(s, alone)
			}
			for at, joint := range numbers {
				if !slices.Equal(must[[]int](t)(wax.Fails(s, joint)), must[[]int](t)(wax.Fails(alone, at))) || !slices.Equal(must[[]int](t)(wax.Causes(s, joint)), must[[]int](t)(wax.Causes(alone, at))) {
					t.Fatal(s, alone, joint)
				}
				if len(numbers) < len(s.Joints) && len(s.Reports) > 0 {
					met++
				}
			}
		}
	}
	if met < 500 {
		t.Error("too rare", met)
	}
}

// P6.16: joints in another order fail just the same.
func TestOtherOrder(t *testing.T) {
	d := dice(18)
	for range 2000 {
		s := d.season(1 << 30)
		other := copyOf(s)
		slices.Reverse(other.Joints)
		turned := func(joint int) int { return len(s.Joints) - 1 - joint }
		for i, r := range s.Reports {
			other.Reports[i].Joint = turned(r.Joint)
		}
		if !slices.Equal(must[[]int](t)(wax.Wrong(s)), must[[]int](t)(wax.Wrong(other))) {
			t.Fatal(s)
		}
		if against(s) {
			if !against(other) {
				t.Fatal(s)
			}
			continue
		}
		first := must[[]int](t)(wax.First(other))
		slices.Reverse(first)
		if !slices.Equal(must[[]int](t)(wax.First(s)), first) || !slices.Equal(must[[]int](t)(wax.Inspect(s, 1)), must[[]int](t)(wax.Inspect(other, 1))) {
			t.Fatal(s, first)
		}
		for joint := range s.Joints {
			if !slices.Equal(must[[]int](t)(wax.Fails(s, joint)), must[[]int](t)(wax.Fails(other, turned(joint)))) || !slices.Equal(must[[]int](t)(wax.Causes(s, joint)), must[[]int](t)(wax.Causes(other, turned(joint)))) {
				t.Fatal(s, joint)
			}
		}
		for week := range s.Heats {
			if must[api.Range](t)(wax.Sound(s, week)) != must[api.Range](t)(wax.Sound(other, week)) {
				t.Fatal(s, week)
			}
		}
	}
}
