package tree

import (
	"errors"
	"strconv"

	"pane/api"
)

var (
	errLong  = errors.New("the text is too long")
	errText  = errors.New("no tree goes on like this")
	errMany  = errors.New("a node too many")
	errDeep  = errors.New("a node too deep")
	errTwice = errors.New("it is there already")
	errRange = errors.New("the number is out of its bounds")
	errNone  = errors.New("the kind has no such name")
)

// fault is an error that stands at a place of the text.
type fault struct {
	place int
	cause error
}

func (f fault) Error() string { return "byte " + strconv.Itoa(f.place) + ": " + f.cause.Error() }

func (f fault) Unwrap() error { return f.cause }

// noTree is the fault of a text that is no tree.
func noTree(place int) error { return fault{place: place, cause: errText} }

func errnoOf(err error) api.Errno {
	switch {
	case errors.Is(err, errLong):
		return api.ErrLong
	case errors.Is(err, errMany):
		return api.ErrMany
	case errors.Is(err, errDeep):
		return api.ErrDeep
	case errors.Is(err, errTwice):
		return api.ErrTwice
	case errors.Is(err, errRange):
		return api.ErrRange
	case errors.Is(err, errNone):
		return api.ErrNone
	}
	return api.ErrText
}

// placeOf is 0 of an error that has no place.
func placeOf(err error) int {
	var f fault
	if errors.As(err, &f) {
		return f.place
	}
	return 0
}
