package toml

import (
	"errors"

	"pantry/api"
)

var (
	errLong  = errors.New("toml: the text is too long")
	errText  = errors.New("toml: no tables' text")
	errRange = errors.New("toml: an integer out of its bounds")
	errMany  = errors.New("toml: lists within too many lists")
	errTwice = errors.New("toml: a key that is there already")
)

// fault is a reason with its place in the text.
type fault struct {
	at     int
	reason error
}

func (f *fault) Error() string { return f.reason.Error() }

func (f *fault) Unwrap() error { return f.reason }

func wrong(reason error, at int) error {
	return &fault{at: at, reason: reason}
}

// told gives an error the number and the place that a caller gets. One that
// no fault wraps has no place of its own: its place is 0.
func told(err error) (api.Errno, int) {
	at := 0
	var f *fault
	if errors.As(err, &f) {
		at = f.at
	}
	switch {
	case errors.Is(err, errLong):
		return api.ErrLong, at
	case errors.Is(err, errRange):
		return api.ErrRange, at
	case errors.Is(err, errMany):
		return api.ErrMany, at
	case errors.Is(err, errTwice):
		return api.ErrTwice, at
	}
	return api.ErrText, at
}
