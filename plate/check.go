package plate

import "musette/api"

// Check returns the first error of a catalogue.
func Check(c api.Catalogue) api.Errno {
	return first(
		checkValue(c.Features, 1, api.MaxFeatures),
		checkNumber(len(c.Models), 1, api.MaxModels),
		checkList(c.Models, func(m api.Model) api.Errno { return checkModel(m, c.Features) }),
	)
}

// checkModel returns the first error of a model that has so many features.
func checkModel(m api.Model, features int) api.Errno {
	return first(
		checkValue(m.First, api.MinYear, api.MaxYear),
		checkNumber(len(m.Looks), 1, api.MaxMade),
		checkNumber(len(m.Numbers), len(m.Looks), len(m.Looks)),
		checkList(m.Looks, func(looks []int) api.Errno { return checkLooks(looks, features, 1) }),
		checkList(m.Numbers, checkPlates),
	)
}

// checkLooks returns the first error of what so many features look like.
func checkLooks(looks []int, features, least int) api.Errno {
	return first(
		checkNumber(len(looks), features, features),
		checkList(looks, func(look int) api.Errno { return checkValue(look, least, api.MaxValue) }),
	)
}

// checkPlates returns the first error of the numbers of plates.
func checkPlates(r api.Range) api.Errno {
	return first(
		checkValue(r.Min, 0, api.MaxPlate),
		checkValue(r.Max, 0, api.MaxPlate),
		checkOrder(r.Min, r.Max),
	)
}

// Valid returns the first error of a catalogue, then that of an instrument.
func Valid(c api.Catalogue, o api.Old) api.Errno {
	return first(
		Check(c),
		checkLooks(o.Seen, c.Features, unseen),
		checkPlate(o.Plate),
		checkValue(o.Changed, 0, api.MaxFeatures),
	)
}

// checkPlate returns the error of what can be read of a plate.
func checkPlate(plate string) api.Errno {
	if plate != "" && len(plate) != digits {
		return api.ErrText
	}
	for _, digit := range plate {
		if digit != unread && (digit < '0' || digit > '9') {
			return api.ErrText
		}
	}
	return api.OK
}

// checkFeature returns the error of the number of a feature.
func checkFeature(c api.Catalogue, feature int) api.Errno {
	if feature < 0 || feature >= c.Features {
		return api.ErrUnknown
	}
	return api.OK
}

// checkOrder returns the error of two numbers of which the first one may not be greater.
func checkOrder(from, to int) api.Errno {
	if from > to {
		return api.ErrOrder
	}
	return api.OK
}

// checkValue returns the error of a number that has bounds.
func checkValue(n, least, most int) api.Errno {
	if n < least || n > most {
		return api.ErrValue
	}
	return api.OK
}

// checkNumber returns the error of the length of a list.
func checkNumber(n, least, most int) api.Errno {
	switch {
	case n < least:
		return api.ErrFew
	case n > most:
		return api.ErrMany
	}
	return api.OK
}

// checkList returns the first error of the items of a list.
func checkList[T any](list []T, check func(T) api.Errno) api.Errno {
	for _, item := range list {
		if e := check(item); e != api.OK {
			return e
		}
	}
	return api.OK
}

// first returns the first of several errors that is one.
func first(errors ...api.Errno) api.Errno {
	for _, e := range errors {
		if e != api.OK {
			return e
		}
	}
	return api.OK
}
