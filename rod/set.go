package rod

// set is a set of small numbers, of levers above all: the bit of each number that is in it is set.
type set uint32

// setOf returns the set of some numbers.
func setOf(list []int) set {
	var s set
	for _, n := range list {
		s = s.with(n)
	}
	return s
}

func (s set) has(n int) bool { return s>>n&1 == 1 }

func (s set) with(n int) set { return s | 1<<n }

func (s set) without(n int) set { return s &^ (1 << n) }

// list returns the numbers of a set, ascending.
func (s set) list() []int {
	var list []int
	for n := 0; s>>n != 0; n++ {
		if s.has(n) {
			list = append(list, n)
		}
	}
	return list
}

// pick returns the items of a list whose numbers are in a set, or those whose numbers are not.
func pick[T any](list []T, s set, in bool) []T {
	var picked []T
	for n, item := range list {
		if s.has(n) == in {
			picked = append(picked, item)
		}
	}
	return picked
}

// each returns what a function says of each item of a list.
func each[A, B any](list []A, of func(A) B) []B {
	var all []B
	for _, item := range list {
		all = append(all, of(item))
	}
	return all
}
