package bench

import "musette/api"

// queues is how many queues there can be. Works wait for each other in the queue of their order, and in that of their bench.
const queues = api.MaxTasks + api.MaxBenches

// tally is a number for each queue: orders come first, then benches.
type tally [queues]int

// turn is which work of a queue a work is.
type turn struct{ queue, number int }

// after returns the next turn of the same queue.
func (t turn) after() turn { return turn{t.queue, t.number + 1} }

// stint is a work with its turns.
type stint struct {
	api.Work
	ofOrder, ofBench turn
}

// next returns the work of an order that comes next if so many works of each queue are done.
func next(s api.Shop, done tally, order int) stint {
	w := s.Tasks[order].Works[done[order]]
	bench := api.MaxTasks + w.Bench
	return stint{w, turn{order, done[order]}, turn{bench, done[bench]}}
}

// allDone returns how many works of each queue are done when all are.
func allDone(s api.Shop) tally {
	var done tally
	for order, t := range s.Tasks {
		for range t.Works {
			done = done.with(next(s, done, order))
		}
	}
	return done
}

// with returns how many works of each queue are done after another one.
func (t tally) with(x stint) tally {
	t[x.ofOrder.queue]++
	t[x.ofBench.queue]++
	return t
}

// set returns the tally in which both queues of a work have a number.
func (t tally) set(x stint, n int) tally {
	t[x.ofOrder.queue], t[x.ofBench.queue] = n, n
	return t
}

// most returns the greater number of both queues of a work.
func (t tally) most(x stint) int { return max(t[x.ofOrder.queue], t[x.ofBench.queue]) }
