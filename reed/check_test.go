package reed_test

import (
	"math"
	"testing"

	"musette/api"
	"musette/reed"
)

// field is a range or a number of a job, with the bounds of the chapter.
type field struct {
	name        string
	least, most int
	of          func(j *api.Job) *api.Range
}

// fields returns all ranges of a job in the order in which they are looked at, up to the shifts.
func fields() []field {
	return []field{
		{"Pitch", -60, 60, func(j *api.Job) *api.Range { return &j.Pitch }},
		{"Tip", 0, 100, func(j *api.Job) *api.Range { return &j.Tip }},
		{"Root", 0, 100, func(j *api.Job) *api.Range { return &j.Root }},
		{"Up", 0, 12, func(j *api.Job) *api.Range { return &j.Up }},
		{"Down", 0, 12, func(j *api.Job) *api.Range { return &j.Down }},
		{"TipWear", 0, 12, func(j *api.Job) *api.Range { return &j.TipWear }},
		{"RootWear", 0, 12, func(j *api.Job) *api.Range { return &j.RootWear }},
	}
}

// shiftFields returns the shifts of a job that has four of them.
func shiftFields() []field {
	var all []field
	for i := range 4 {
		all = append(all, field{"Shift", -60, 60, func(j *api.Job) *api.Range { return &j.Shifts[i] }})
	}
	return all
}

// fourShifts returns the job J with two shifts more.
func fourShifts() api.Job {
	return but(func(j *api.Job) { j.Shifts = append(j.Shifts, to(0, 0), to(-1, 1)) })
}

// P1.1: each range has its bounds, at both ends, and its order.
func TestCheckRanges(t *testing.T) {
	for _, f := range append(fields(), shiftFields()...) {
		for _, c := range []struct {
			r    api.Range
			want api.Errno
		}{
			{to(f.least, f.most), api.OK},
			{to(f.least, f.least), api.OK},
			{to(f.most, f.most), api.OK},
			{to(f.least-1, f.most), api.ErrValue},
			{to(f.least, f.most+1), api.ErrValue},
			{to(f.most+1, f.most+1), api.ErrValue},
			{to(f.least-1, f.least-1), api.ErrValue},
			{to(f.most+1, f.least), api.ErrValue},
			{to(f.most, f.least-1), api.ErrValue},
			{to(f.least+1, f.least), api.ErrOrder},
			{to(f.most, f.least), api.ErrOrder},
			{to(math.MinInt, math.MaxInt), api.ErrValue},
			{to(math.MaxInt, math.MinInt), api.ErrValue},
		} {
			j := fourShifts()
			*f.of(&j) = c.r
			if e := reed.Check(j); e != c.want {
				t.Error(f.name, c.r, e)
			}
		}
	}
}

// P1.1: the numbers have their bounds.
func TestCheckNumbers(t *testing.T) {
	for _, f := range []struct {
		name string
		most int
		of   func(j *api.Job) *int
	}{
		{"Least", 100, func(j *api.Job) *int { return &j.Least }},
		{"Within", 60, func(j *api.Job) *int { return &j.Within }},
		{"Meter", 6, func(j *api.Job) *int { return &j.Meter }},
	} {
		for _, c := range []struct {
			n    int
			want api.Errno
		}{{0, api.OK}, {1, api.OK}, {f.most, api.OK}, {-1, api.ErrValue}, {f.most + 1, api.ErrValue}, {math.MinInt, api.ErrValue}, {math.MaxInt, api.ErrValue}} {
			j := jobJ()
			*f.of(&j) = c.n
			if e := reed.Check(j); e != c.want {
				t.Error(f.name, c.n, e)
			}
		}
	}
}

// P1.1: at most four shifts.
func TestCheckShifts(t *testing.T) {
	for number, want := range []api.Errno{api.OK, api.OK, api.OK, api.OK, api.OK, api.ErrMany, api.ErrMany} {
		j := but(func(j *api.Job) { j.Shifts = make([]api.Range, number) })
		if e := reed.Check(j); e != want {
			t.Error(number, e)
		}
	}
	if e := reed.Check(but(func(j *api.Job) { j.Shifts = nil })); e != api.OK {
		t.Error(e)
	}
	if e := reed.Check(api.Job{}); e != api.OK {
		t.Error("the zero job", e)
	}
}

// fault makes a job invalid.
type fault struct {
	name  string
	make  func(j *api.Job)
	error api.Errno
}

// faults returns a list of faults for each step of Check, in the order of the steps.
func faults() [][]fault {
	var all [][]fault
	ofRange := func(f field) {
		all = append(all, []fault{
			{f.name + " value", func(j *api.Job) { *f.of(j) = to(f.most+1, f.least) }, api.ErrValue},
			{f.name + " order", func(j *api.Job) { *f.of(j) = to(f.most, f.least) }, api.ErrOrder},
		})
	}
	for _, f := range fields() {
		ofRange(f)
	}
	all = append(all, []fault{{"Least", func(j *api.Job) { j.Least = 101 }, api.ErrValue}})
	all = append(all, []fault{{"five shifts", func(j *api.Job) { j.Shifts = append(j.Shifts[:4:4], to(0, 0)) }, api.ErrMany}})
	for _, f := range shiftFields() {
		ofRange(f)
	}
	all = append(all, []fault{{"Within", func(j *api.Job) { j.Within = -1 }, api.ErrValue}})
	return append(all, []fault{{"Meter", func(j *api.Job) { j.Meter = 7 }, api.ErrValue}})
}

// P1.1, R1: of two errors the first one is returned.
func TestCheckOrder(t *testing.T) {
	steps := faults()
	for i, firsts := range steps {
		for _, second := range steps[i+1:] {
			for _, a := range firsts {
				for _, b := range second {
					j := fourShifts()
					b.make(&j)
					a.make(&j)
					if e := reed.Check(j); e != a.error {
						t.Error(a.name, "and", b.name, e)
					}
				}
			}
		}
	}
}

// P1.1 to P1.7, R1, R3: each function returns Check's error ahead of all others, and zero values with it.
func TestErrorsOfJobs(t *testing.T) {
	wrong := []int{1, 9, 2, 2, 2, 2, 2}
	for _, step := range faults() {
		for _, f := range step {
			j := fourShifts()
			f.make(&j)
			window, e1 := reed.Window(j)
			passes, e2 := reed.Passes(j)
			heard, e3 := reed.Hear(j, 999)
			tongue, e4 := reed.After(j, wrong)
			worst, e5 := reed.Worst(j, wrong)
			spoiled, e6 := reed.Spoiled(j, wrong)
			fine, e7 := reed.Fine(j, wrong)
			shortest, e8 := reed.Shortest(j)
			guided, e9 := reed.Guided(j)
			stroke, left, e10 := reed.Next(j)
			number, strokes, e11 := reed.Blank([]api.Job{jobK(), j, {Meter: 9}})
			text, e12 := reed.Write(j)
			for i, e := range []api.Errno{reed.Check(j), e1, e2, e3, e4, e5, e6, e7, e8, e9, e10, e11, e12} {
				if e != f.error {
					t.Error(f.name, i, e)
				}
			}
			if window != to(0, 0) || heard != to(0, 0) || tongue != (api.Tongue{}) || len(shortest) > 0 || text != "" {
				t.Error(f.name, window, heard, tongue, shortest, text)
			}
			for i, n := range []int{passes, worst, spoiled, fine, guided, stroke, left, number, strokes} {
				if n != 0 {
					t.Error(f.name, i, n)
				}
			}
		}
	}
}

// P1.2, P1.3, R1, R3: strokes have their errors, and nothing else is returned with them.
func TestErrorsOfStrokes(t *testing.T) {
	for i, c := range []struct {
		strokes []int
		want    api.Errno
	}{
		{nil, api.OK},
		{[]int{}, api.OK},
		{[]int{1, 2, 1, 2, 1, 2}, api.OK},
		{[]int{1, 1, 1, 1, 1, 1, 1}, api.ErrMany},
		{[]int{0, 0, 0, 0, 0, 0, 0}, api.ErrMany},
		{make([]int, 1000), api.ErrMany},
		{[]int{0}, api.ErrKind},
		{[]int{3}, api.ErrKind},
		{[]int{-1}, api.ErrKind},
		{[]int{1, 2, 1, 2, 1, 3}, api.ErrKind},
		{[]int{1, math.MaxInt}, api.ErrKind},
		{[]int{math.MinInt, 1}, api.ErrKind},
	} {
		tongue, e1 := reed.After(jobJ(), c.strokes)
		worst, e2 := reed.Worst(jobJ(), c.strokes)
		spoiled, e3 := reed.Spoiled(jobJ(), c.strokes)
		fine, e4 := reed.Fine(jobJ(), c.strokes)
		if e1 != c.want || e2 != c.want || e3 != c.want || e4 != c.want {
			t.Error(i, e1, e2, e3, e4)
		}
		if c.want != api.OK && (tongue != (api.Tongue{}) || worst != 0 || spoiled != 0 || fine != 0) {
			t.Error(i, tongue, worst, spoiled, fine)
		}
	}
}
