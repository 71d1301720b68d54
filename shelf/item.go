package shelf

import (
	"pantry/api"
	"pantry/book"
	"pantry/need"
	"pantry/ver"
)

// item is a release whose version could be read.
type item struct {
	number  int
	version api.Version
}

// itemsOf tells the releases of a name, by their numbers.
func itemsOf(l []api.Release, name string) []item {
	var found []item
	for number, r := range l {
		if r.Name != name {
			continue
		}
		if v, errno, _ := ver.Parse(r.Version); errno == api.OK {
			found = append(found, item{number, v})
		}
	}
	return found
}

// faultOf tells what is wrong with a release. It is asked when those ahead of
// it were found right.
func faultOf(l []api.Release, number int) api.Errno {
	r := l[number]
	// What comes behind this looks at no more releases and needs than there
	// may be.
	if number >= maxPackages || len(r.Needs) > maxNeeds {
		return api.ErrMany
	}
	_, errno, _ := ver.Parse(r.Version)
	needs := need.Fault(r.Needs)
	if !book.Name(r.Name) || errno != api.OK || needs == api.ErrText {
		return api.ErrText
	}
	if needs == api.ErrTwice || Find(l[:number], r.Name, r.Version) >= 0 {
		return api.ErrTwice
	}
	return api.OK
}
