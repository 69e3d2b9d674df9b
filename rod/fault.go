package rod

import (
	"slices"

	"musette/api"
)

// mostFaults is how many faults are looked for at once at most.
const mostFaults = 2

// fault is something that is wrong with a machine; told is what a caller is told of it.
type fault interface{ told() api.Fault }

// The kinds of faults: a lever that stays shut or open, a pin or a link that is gone, each with its number.
type (
	shut     int
	open     int
	lostPin  int
	lostLink int
)

func (n shut) told() api.Fault     { return api.Fault{Kind: api.FaultShut, Which: int(n)} }
func (n open) told() api.Fault     { return api.Fault{Kind: api.FaultOpen, Which: int(n)} }
func (n lostPin) told() api.Fault  { return api.Fault{Kind: api.FaultPin, Which: int(n)} }
func (n lostLink) told() api.Fault { return api.Fault{Kind: api.FaultLink, Which: int(n)} }

// Faults returns all faults that a machine can have, in order.
func Faults(m api.Machine) ([]api.Fault, api.Errno) {
	if x := Check(m); x != api.OK {
		return nil, x
	}
	return each(faultsOf(m), fault.told), api.OK
}

// Broken returns the levers that sound with a hand in a machine with some faults.
func Broken(m api.Machine, faults []int, h api.Hand) ([]int, api.Errno) {
	if x := first(Check(m), checkSet(faults, numberOfFaults(m)), checkHand(m, h)); x != api.OK {
		return nil, x
	}
	sounds := sounding(m, pick(faultsOf(m), setOf(faults), true)...)
	return sounds(h).list(), api.OK
}

// Useless returns all pins of which each alone could be gone without being missed.
func Useless(m api.Machine) ([]int, api.Errno) {
	if x := Check(m); x != api.OK {
		return nil, x
	}
	var pins []int
	whole := sounding(m)
	for pin := range m.Pins {
		if alike(m, whole, sounding(m, lostPin(pin))) {
			pins = append(pins, pin)
		}
	}
	return pins, api.OK
}

// Suspects returns all faults of which each alone explains what was heard, and -1 ahead of them if no fault explains it, too.
func Suspects(m api.Machine, l []api.Heard) ([]int, api.Errno) {
	if x := first(Check(m), checkHeard(m, l)); x != api.OK {
		return nil, x
	}
	var suspects []int
	for number := noFault; number < numberOfFaults(m); number++ {
		if explains(suspected(m, number), l) {
			suspects = append(suspects, number)
		}
	}
	if len(suspects) == 0 {
		return nil, api.ErrNone
	}
	return suspects, api.OK
}

// Fewest returns the first of the sets of the fewest faults that explain what was heard.
func Fewest(m api.Machine, l []api.Heard) ([]int, api.Errno) {
	sets, x := explaining(m, l)
	if x != api.OK {
		return nil, x
	}
	return sets[0], api.OK
}

// Blame returns for each fault whether it is in the sets of the fewest faults that explain what was heard.
func Blame(m api.Machine, l []api.Heard) ([]int, api.Errno) {
	sets, x := explaining(m, l)
	if x != api.OK {
		return nil, x
	}
	var verdicts []int
	for number := range numberOfFaults(m) {
		blamed := 0
		for _, faults := range sets {
			if slices.Contains(faults, number) {
				blamed++
			}
		}
		verdicts = append(verdicts, verdict(blamed, len(sets)))
	}
	return verdicts, api.OK
}

// Test returns the first hand after which the fewest suspects are left in the worst case, and how many these are.
func Test(m api.Machine, l []api.Heard) (h api.Hand, left int, e api.Errno) {
	suspects, x := Suspects(m, l)
	if x != api.OK {
		return api.Hand{}, 0, x
	}
	sounds := each(suspects, func(number int) func(api.Hand) set { return suspected(m, number) })
	left = len(suspects)
	for hand := range hands(m) {
		if n := mostAlike(sounds, hand); n < left {
			h, left = hand, n
		}
	}
	// Only if some hand makes a difference fewer are left than there were.
	if left == len(suspects) {
		return api.Hand{}, 0, api.ErrNone
	}
	return h, left, api.OK
}

// numberOfFaults returns how many faults a machine can have.
func numberOfFaults(m api.Machine) int { return 2*m.Levers + len(m.Pins) + len(m.Links) }

// faultsOf returns all faults that a machine can have, in order.
func faultsOf(m api.Machine) []fault {
	var all []fault
	for lever := range m.Levers {
		all = append(all, shut(lever))
	}
	for lever := range m.Levers {
		all = append(all, open(lever))
	}
	for pin := range m.Pins {
		all = append(all, lostPin(pin))
	}
	for link := range m.Links {
		all = append(all, lostLink(link))
	}
	return all
}

// suspected returns what tells which levers sound if there is just the fault with this number, or no fault.
func suspected(m api.Machine, number int) func(h api.Hand) set {
	if number == noFault {
		return sounding(m)
	}
	return sounding(m, faultsOf(m)[number])
}

// explains tells whether with each hand just those levers sound that were heard.
func explains(sounds func(h api.Hand) set, l []api.Heard) bool {
	for _, heard := range l {
		if sounds(heard.Hand) != setOf(heard.Sounds) {
			return false
		}
	}
	return true
}

// explaining returns all sets of the fewest faults that explain what was heard, in lexicographic order.
func explaining(m api.Machine, l []api.Heard) ([][]int, api.Errno) {
	if x := first(Check(m), checkHeard(m, l)); x != api.OK {
		return nil, x
	}
	var sets [][]int
	all := faultsOf(m)
	for numbers := range lists(mostFaults, len(all)) {
		if len(sets) > 0 && len(sets[0]) < len(numbers) {
			break
		}
		if explains(sounding(m, pick(all, setOf(numbers), true)...), l) {
			sets = append(sets, numbers)
		}
	}
	if len(sets) == 0 {
		return nil, api.ErrNone
	}
	return sets, api.OK
}

// alike tells whether the same levers sound with each hand.
func alike(m api.Machine, one, other func(h api.Hand) set) bool {
	for hand := range hands(m) {
		if one(hand) != other(hand) {
			return false
		}
	}
	return true
}

// mostAlike returns how many suspects at most make the same levers sound with a hand.
func mostAlike(suspects []func(h api.Hand) set, hand api.Hand) int {
	most, met := 0, map[set]int{}
	for _, sounds := range suspects {
		levers := sounds(hand)
		met[levers]++
		most = max(most, met[levers])
	}
	return most
}

// verdict returns in which of all cases something is so if it is in so many of them.
func verdict(so, all int) int {
	switch so {
	case all:
		return api.Always
	case 0:
		return api.Never
	}
	return api.Either
}
