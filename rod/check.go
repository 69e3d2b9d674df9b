package rod

import "musette/api"

// always is the register of a link that works whether registers are on or not.
const always = -1

// noFault stands for a machine that is whole, where a fault is named by its number.
const noFault = -1

// Check returns the first error of a machine.
func Check(m api.Machine) api.Errno {
	return first(
		checkSizes(m),
		checkList(m.Buttons, api.MaxButtons, func(rod int) api.Errno { return checkNumber(rod, m.Rods) }),
		checkList(m.Pins, api.MaxPins, func(p api.Pin) api.Errno { return checkPin(m, p) }),
		checkList(m.Links, api.MaxLinks, func(l api.Link) api.Errno { return checkLink(m, l) }),
		checkWeights(m),
	)
}

// checkSizes returns the error of how large a machine is.
func checkSizes(m api.Machine) api.Errno {
	return first(
		checkValue(m.Rods, 1, api.MaxRods),
		checkValue(m.Levers, 1, api.MaxLevers),
		checkValue(m.Registers, 0, api.MaxRegisters),
		checkValue(m.Travel, 1, api.MaxTravel),
		checkValue(m.Open, 1, m.Travel),
	)
}

// checkPin returns the error of a pin.
func checkPin(m api.Machine, p api.Pin) api.Errno {
	return first(checkNumber(p.Rod, m.Rods), checkNumber(p.Lever, m.Levers), checkValue(p.Lag, 0, m.Travel))
}

// checkLink returns the error of a link.
func checkLink(m api.Machine, l api.Link) api.Errno {
	if x := first(checkNumber(l.From, m.Rods), checkNumber(l.To, m.Rods)); x != api.OK {
		return x
	}
	if l.From == l.To {
		return api.ErrTwice
	}
	if l.Register != always {
		if x := checkNumber(l.Register, m.Registers); x != api.OK {
			return x
		}
	}
	return checkValue(l.Lag, 1, m.Travel)
}

// checkWeights returns the error of the weights of the levers.
func checkWeights(m api.Machine) api.Errno {
	if len(m.Weights) != m.Levers {
		return api.ErrText
	}
	return checkList(m.Weights, m.Levers, func(weight int) api.Errno { return checkValue(weight, 0, api.MaxWeight) })
}

// checkHand returns the error of a hand for a machine.
func checkHand(m api.Machine, h api.Hand) api.Errno {
	return first(checkSet(h.Buttons, len(m.Buttons)), checkSet(h.On, m.Registers))
}

// checkHeard returns the error of what was heard of a machine.
func checkHeard(m api.Machine, l []api.Heard) api.Errno {
	return checkList(l, api.MaxHeard, func(h api.Heard) api.Errno {
		return first(checkHand(m, h.Hand), checkSet(h.Sounds, m.Levers))
	})
}

// checkSet returns the error of a set of numbers below a limit.
func checkSet(list []int, limit int) api.Errno {
	before := -1
	for _, n := range list {
		if x := checkNumber(n, limit); x != api.OK {
			return x
		}
		if n <= before {
			return api.ErrOrder
		}
		before = n
	}
	return api.OK
}

// checkList returns the error of a list that has at most so many items, each of which has its own error.
func checkList[T any](list []T, most int, check func(T) api.Errno) api.Errno {
	if len(list) > most {
		return api.ErrMany
	}
	for _, item := range list {
		if x := check(item); x != api.OK {
			return x
		}
	}
	return api.OK
}

// checkNumber returns the error of a number of something of which there are so many.
func checkNumber(n, limit int) api.Errno {
	if n < 0 || n >= limit {
		return api.ErrUnknown
	}
	return api.OK
}

// checkValue returns the error of a number that has bounds.
func checkValue(n, least, most int) api.Errno {
	if n < least || n > most {
		return api.ErrValue
	}
	return api.OK
}

// first returns the first of several errors that is one.
func first(errors ...api.Errno) api.Errno {
	for _, x := range errors {
		if x != api.OK {
			return x
		}
	}
	return api.OK
}
