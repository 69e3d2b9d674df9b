package reed

import (
	"iter"

	"musette/api"
)

// The strokes of a file.
const (
	tip = iota + api.StrokeTip
	root
)

// work is a job that is being done: its tongue changes, all else stays.
type work struct{ api.Job }

// After returns what the tongue can be after some strokes.
func After(j api.Job, strokes []int) (api.Tongue, api.Errno) {
	w, e := filed(j, strokes)
	return w.Tongue, e
}

// Worst returns by how many cents the pitch can be off after some strokes, under some condition.
func Worst(j api.Job, strokes []int) (int, api.Errno) {
	w, e := filed(j, strokes)
	if e != api.OK {
		return 0, e
	}
	return w.worst(), api.OK
}

// Spoiled returns whether the tongue is spoiled after some strokes.
func Spoiled(j api.Job, strokes []int) (int, api.Errno) {
	w, e := filed(j, strokes)
	if e != api.OK {
		return 0, e
	}
	return w.spoiled(), api.OK
}

// Fine returns whether the tongue passes after some strokes and is not spoiled.
func Fine(j api.Job, strokes []int) (int, api.Errno) {
	w, e := filed(j, strokes)
	if e != api.OK {
		return 0, e
	}
	return w.fine(), api.OK
}

// Shortest returns the fewest strokes after which the tongue always is fine.
func Shortest(j api.Job) ([]int, api.Errno) {
	if e := Check(j); e != api.OK {
		return nil, e
	}
	become := work{j}.after
	for number := range api.MaxStrokes + 1 {
		for strokes := range lists(number) {
			if become(strokes).fine() == api.Always {
				return strokes, api.OK
			}
		}
	}
	return nil, api.ErrNone
}

// filed returns a job after some strokes, or the error of either; then there is no work.
func filed(j api.Job, strokes []int) (work, api.Errno) {
	if e := first(Check(j), checkStrokes(strokes)); e != api.OK {
		return work{}, e
	}
	return work{j}.after(strokes), api.OK
}

// checkStrokes returns the first error of a list of strokes.
func checkStrokes(strokes []int) api.Errno {
	if len(strokes) > api.MaxStrokes {
		return api.ErrMany
	}
	for _, stroke := range strokes {
		switch stroke {
		case tip, root:
		default:
			return api.ErrKind
		}
	}
	return api.OK
}

// lists yields lists of so many strokes, in lexicographic order: of those with the same strokes the first one alone, since a tongue becomes the same in whichever order they are made.
func lists(number int) iter.Seq[[]int] {
	return func(yield func([]int) bool) {
		for roots := range number + 1 {
			strokes := make([]int, number)
			for i := range strokes {
				strokes[i] = tip
				if i >= number-roots {
					strokes[i] = root
				}
			}
			if !yield(strokes) {
				return
			}
		}
	}
}

// after returns the work after some strokes.
func (w work) after(strokes []int) work {
	for _, stroke := range strokes {
		w.Tongue = w.stroked(stroke)
	}
	return w
}

// stroked returns what the tongue can be after a stroke.
func (w work) stroked(stroke int) api.Tongue {
	t := w.Tongue
	switch stroke {
	case tip:
		t.Pitch = sum(t.Pitch, w.Up)
		t.Tip = difference(t.Tip, w.TipWear)
	case root:
		t.Pitch = difference(t.Pitch, w.Down)
		t.Root = difference(t.Root, w.RootWear)
	}
	return t
}

// worst returns by how many cents the pitch can be off.
func (w work) worst() int {
	most := 0
	for _, shift := range conditions(w.Job) {
		shifted := sum(w.Pitch, shift)
		most = max(most, -shifted.Min, shifted.Max)
	}
	return most
}

// spoiled returns whether the tongue is spoiled.
func (w work) spoiled() int {
	switch {
	case w.Tip.Max < w.Least || w.Root.Max < w.Least:
		return api.Always
	case w.Tip.Min >= w.Least && w.Root.Min >= w.Least:
		return api.Never
	}
	return api.Either
}

// fine returns whether the tongue passes and is not spoiled; a truth chooses its pitch and its thickness freely, so that each way of the one goes with each of the other.
func (w work) fine() int {
	passed, spoiled := passes(w.Job), w.spoiled()
	switch {
	case passed == api.Always && spoiled == api.Never:
		return api.Always
	case passed == api.Never || spoiled == api.Always:
		return api.Never
	}
	return api.Either
}

// sum returns what a number of the one range and a number of the other one can be together.
func sum(a, b api.Range) api.Range {
	return api.Range{Min: a.Min + b.Min, Max: a.Max + b.Max}
}

// difference returns what is left if a number of the other range is taken from one of the first.
func difference(a, b api.Range) api.Range {
	return api.Range{Min: a.Min - b.Max, Max: a.Max - b.Min}
}
