package ranges

import (
	"pantry/api"
	"pantry/ver"
)

// partial is a version of which not all numbers need be given.
type partial struct {
	first api.Version // the first one that it names
	given int         // how many numbers are given: none of a wild alone
}

// lowest tells the sound version that stands ahead of all others.
func lowest() api.Version { return api.Version{Pre: "0"} }

// numbersOf tells where the numbers of a version stand, the one that counts
// most first.
func numbersOf(v *api.Version) [3]*int { return [...]*int{&v.Major, &v.Minor, &v.Patch} }

// named tells all versions that a partial names.
func (p partial) named() api.Span {
	if p.given == 3 {
		return api.Span{From: p.first, To: ver.Next(p.first)}
	}
	return p.alike(p.given)
}

// alike tells, of the versions from the first one named on, those that have
// the same numbers up to that one.
func (p partial) alike(count int) api.Span {
	if count == 0 {
		return api.Span{From: p.first, Open: true}
	}
	return api.Span{From: p.first, To: behindAlike(p.first, count)}
}

// behindAlike tells the version right behind all those that have the same
// numbers up to that one.
func behindAlike(v api.Version, count int) api.Version {
	v.Pre = "0"
	for i, number := range numbersOf(&v) {
		switch {
		case i == count-1:
			*number++
		case i >= count:
			*number = 0
		}
	}
	return v
}

// leading tells up to which number ^ wants them to be the same. (Those that are
// wanting are 0, so that none of them leads.)
func (p partial) leading() int {
	for i, number := range numbersOf(&p.first) {
		if *number != 0 {
			return i + 1
		}
	}
	return p.given
}
