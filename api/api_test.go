package api_test

import (
	"testing"

	"pantry/api"
)

// The numbers of the errors stand in the document: callers may hold to them.
func TestErrorNumbers(t *testing.T) {
	for want, got := range []api.Errno{
		api.OK, api.ErrLong, api.ErrText, api.ErrRange, api.ErrMany, api.ErrTwice,
		api.ErrNone, api.ErrKind, api.ErrUnsat, api.ErrDigest, api.ErrFuel,
	} {
		if int(got) != want {
			t.Errorf("error %d has the number %d", want, int(got))
		}
	}
}
