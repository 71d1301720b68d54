package solve

import (
	"pantry/api"
	"pantry/ranges"
	"pantry/span"
	"pantry/ver"
)

// pull is what a list of needs means for the releases on a shelf.
type pull struct {
	named set   // those whose names it has
	bars  set   // those of them that do not meet their need
	meets []set // for each need: those that meet it
}

// pulls are those of the project's needs and of each release's.
type pulls struct {
	project  pull
	releases []pull
}

// pullsOf is asked when the needs and the releases were found right: so each
// range and each version can be read.
func pullsOf(needs []api.Need, l []api.Release) pulls {
	versions := make([]api.Version, len(l))
	for i, r := range l {
		versions[i], _, _ = ver.Parse(r.Version)
	}
	p := pulls{pullOf(needs, l, versions), make([]pull, len(l))}
	for i, r := range l {
		p.releases[i] = pullOf(r.Needs, l, versions)
	}
	return p
}

func pullOf(needs []api.Need, l []api.Release, versions []api.Version) pull {
	p := pull{meets: make([]set, len(needs))}
	for i, n := range needs {
		admitted, _, _ := ranges.Parse(n.Range)
		for number, r := range l {
			if r.Name != n.Name {
				continue
			}
			p.named |= only(number)
			if span.Holds(admitted, versions[number]) {
				p.meets[i] |= only(number)
			} else {
				p.bars |= only(number)
			}
		}
	}
	return p
}

// metBy tells whether these releases meet all needs.
func (p pull) metBy(all set) bool {
	for _, meet := range p.meets {
		if meet&all == 0 {
			return false
		}
	}
	return true
}

// met tells whether these releases meet the project's needs and their own.
func (p pulls) met(all set) bool {
	for number, r := range p.releases {
		if all.has(number) && !r.metBy(all) {
			return false
		}
	}
	return p.project.metBy(all)
}

// wanted tells which of these releases are wanted. It begins with what the
// project names: releases that name one another only do not count.
func (p pulls) wanted(all set) set {
	found := p.project.named & all
	for {
		more := found
		for number, r := range p.releases {
			if found.has(number) {
				more |= r.named & all
			}
		}
		if more == found {
			return found
		}
		found = more
	}
}
