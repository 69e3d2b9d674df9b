package voice

import (
	"sync"

	"musette/api"
	"musette/reed"
)

// place is the numbers of a lower and an upper tongue.
type place struct{ low, high int }

// task is the job of a pair.
type task struct {
	api.Job
	place
}

// taskOf returns the job of a pair of a valid box.
func taskOf(b api.Box, low, high int) task {
	t := task{blank(b), place{low, high}}
	d := pair(b, low, high)
	t.Pitch = less(d.high.Tone, api.Range{Min: d.due, Max: d.due})
	// Without its own tone an upper tongue beats by just as much as the beat is greater than this tone.
	d.high.Tone = api.Range{}
	t.Shifts = d.beats()
	return t
}

// blank returns the job of a tongue of a box that is as due.
func blank(b api.Box) api.Job {
	return api.Job{
		Tongue: api.Tongue{Tip: b.Tip, Root: b.Root},
		File:   b.File,
		Within: b.Span,
		Meter:  b.Meter,
	}
}

// counts is how many strokes pairs need; pairs for which there is no way are not in it.
type counts struct {
	lock    sync.Mutex
	strokes map[place]int
}

// ask finds out how many strokes a pair needs.
func (c *counts) ask(t task) {
	strokes, e := reed.Guided(t.Job)
	if e != api.OK {
		return
	}
	c.lock.Lock()
	defer c.lock.Unlock()
	c.strokes[t.place] = strokes
}

// strokesOf returns how many strokes the pairs of a valid box need.
func strokesOf(b api.Box) map[place]int {
	c := counts{strokes: map[place]int{}}
	var asked sync.WaitGroup
	for low := range b.Lows {
		for high := range b.Highs {
			asked.Add(1)
			go func() {
				defer asked.Done()
				c.ask(taskOf(b, low, high))
			}()
		}
	}
	asked.Wait()
	return c.strokes
}
