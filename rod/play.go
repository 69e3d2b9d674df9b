package rod

import "musette/api"

// held is which buttons are pressed, and which registers are on, after some events.
type held struct{ buttons, on set }

// hand returns what is held as a hand.
func (h held) hand() api.Hand { return api.Hand{Buttons: h.buttons.list(), On: h.on.list()} }

// Play returns the levers that sound after each event.
func Play(m api.Machine, l []api.Event) (sounds [][]int, e api.Errno) {
	if x := Check(m); x != api.OK {
		return nil, x
	}
	if len(l) > api.MaxEvents {
		return nil, api.ErrMany
	}
	defer func() {
		if x, ok := recover().(api.Errno); ok {
			sounds, e = nil, x
		}
	}()
	return each(played(m, l), set.list), api.OK
}

// played returns the levers that sound after each event; it panics with the error of the first event that is not possible.
func played(m api.Machine, l []api.Event) []set {
	var all []set
	var h held
	sounds := sounding(m)
	for _, event := range l {
		h = h.after(m, event)
		all = append(all, sounds(h.hand()))
	}
	return all
}

// after returns what is held after an event; it panics with its error if it is not possible.
func (h held) after(m api.Machine, event api.Event) held {
	next := h
	switch event.Kind {
	case api.EventPress:
		next.buttons = changed(h.buttons, set.with, event.Which, len(m.Buttons), api.ErrTwice)
	case api.EventRelease:
		next.buttons = changed(h.buttons, set.without, event.Which, len(m.Buttons), api.ErrNone)
	case api.EventOn:
		next.on = changed(h.on, set.with, event.Which, m.Registers, api.ErrTwice)
	case api.EventOff:
		next.on = changed(h.on, set.without, event.Which, m.Registers, api.ErrNone)
	default:
		panic(api.ErrKind)
	}
	return next
}

// changed returns a set after a change by a number, which has to be below a limit; it panics with an error if the set stays as it was.
func changed(s set, change func(set, int) set, which, limit int, due api.Errno) set {
	if x := checkNumber(which, limit); x != api.OK {
		panic(x)
	}
	next := change(s, which)
	if next == s {
		panic(due)
	}
	return next
}
