// Package need looks at lists of needs, for shelf and solve: both refuse the
// same ones.
package need

import (
	"pantry/api"
	"pantry/book"
	"pantry/ranges"
)

// Fault tells what is wrong with a list of needs, of any length: ErrText, if a
// Name is no name or a Range no range; else ErrTwice, if two have one Name.
func Fault(l []api.Need) api.Errno {
	for _, n := range l {
		if !book.Name(n.Name) || !isRange(n.Range) {
			return api.ErrText
		}
	}
	if hasTwice(l) {
		return api.ErrTwice
	}
	return api.OK
}

func isRange(text string) bool {
	_, errno, _ := ranges.Parse(text)
	return errno == api.OK
}

func hasTwice(l []api.Need) bool {
	ahead := make(map[string]struct{}, len(l))
	for _, n := range l {
		if _, ok := ahead[n.Name]; ok {
			return true
		}
		ahead[n.Name] = struct{}{}
	}
	return false
}
