package pantry

import (
	"pantry/api"
	"pantry/book"
	"pantry/sum"
	"pantry/ver"
)

// readLock reads a lock; an empty one stands for a project that was never
// locked.
func readLock(text string) ([]api.Entry, api.Errno, int) {
	if text == "" {
		return nil, api.OK, 0
	}
	return book.ReadLock(text)
}

// entriesOf tells what a lock is to say of the chosen releases, in their
// order.
func entriesOf(l []api.Release, chosen []int) []api.Entry {
	entries := make([]api.Entry, len(chosen))
	for i, number := range chosen {
		entries[i] = entryOf(l[number])
	}
	return entries
}

func entryOf(r api.Release) api.Entry {
	e := api.Entry{Name: r.Name, Version: r.Version, Digest: sum.Digest(r.Data)}
	for _, n := range r.Needs {
		e.Needs = append(e.Needs, n.Name)
	}
	return e
}

// firstChanged tells the first of the entries of which the old lock has the
// same release with another digest.
func firstChanged(old, entries []api.Entry) (name string, ok bool) {
	for _, e := range entries {
		for _, o := range old {
			if o.Name == e.Name && o.Digest != e.Digest && together(o.Version, e.Version) {
				return e.Name, true
			}
		}
	}
	return "", false
}

// together tells whether two texts of which it is known that they are
// versions stand together.
func together(a, b string) bool {
	v, _, _ := ver.Parse(a)
	w, _, _ := ver.Parse(b)
	return ver.Compare(v, w) == 0
}
