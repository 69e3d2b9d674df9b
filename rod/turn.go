package rod

import "musette/api"

// turns is how far each rod turns; rods that a machine does not have are at 0.
type turns [api.MaxRods]int

// lifts is how far each lever is lifted; levers that a machine does not have are at 0.
type lifts [api.MaxLevers]int

// linked returns how far rods turn at least if they turn at least so far.
func (t turns) linked(links []api.Link) turns {
	next := t
	for _, l := range links {
		next[l.To] = max(next[l.To], t[l.From]-l.Lag)
	}
	return next
}

// steps sends how far rods turn at least after each step through links, and closes the channel when nothing changes any more. That comes to an end even if links go round, since each of them has a lag.
func steps(t turns, links []api.Link) <-chan turns {
	sent := make(chan turns)
	go func() {
		defer close(sent)
		for {
			sent <- t
			next := t.linked(links)
			if next == t {
				return
			}
			t = next
		}
	}()
	return sent
}

// turned returns how far the rods turn with a hand whose buttons are pressed down to a depth.
func turned(m api.Machine, h api.Hand, depth int) turns {
	var t turns
	for _, button := range h.Buttons {
		t[m.Buttons[button]] = depth
	}
	on := setOf(h.On)
	var links []api.Link
	for _, l := range m.Links {
		if l.Register == always || on.has(l.Register) {
			links = append(links, l)
		}
	}
	for step := range steps(t, links) {
		t = step
	}
	return t
}

// lifted returns how far the levers are lifted if the rods turn so far.
func lifted(m api.Machine, t turns) lifts {
	var l lifts
	for _, p := range m.Pins {
		l[p.Lever] = max(l[p.Lever], t[p.Rod]-p.Lag)
	}
	return l
}

// soundsAt returns the levers that sound with a hand whose buttons are pressed down to a depth.
func soundsAt(m api.Machine, h api.Hand, depth int) set {
	var sounds set
	for lever, lift := range lifted(m, turned(m, h, depth)) {
		if lift >= m.Open {
			sounds = sounds.with(lever)
		}
	}
	return sounds
}

// sounding returns what tells which levers of a machine with some faults sound with a hand.
func sounding(m api.Machine, faults ...fault) func(h api.Hand) set {
	var shutLevers, openLevers, lostPins, lostLinks set
	for _, f := range faults {
		switch n := f.(type) {
		case shut:
			shutLevers = shutLevers.with(int(n))
		case open:
			openLevers = openLevers.with(int(n))
		case lostPin:
			lostPins = lostPins.with(int(n))
		case lostLink:
			lostLinks = lostLinks.with(int(n))
		}
	}
	rest := m
	rest.Pins, rest.Links = pick(m.Pins, lostPins, false), pick(m.Links, lostLinks, false)
	return func(h api.Hand) set {
		return (soundsAt(rest, h, rest.Travel) | openLevers) &^ shutLevers
	}
}
