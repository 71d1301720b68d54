package book

import (
	"cmp"
	"slices"
	"strconv"
	"strings"

	"pantry/api"
	"pantry/sum"
)

// lockFormat is the number of the one form of locks that there is.
const lockFormat = 1

// firstsOf tells, by the entries' names, the number of the first one that has
// that name.
func firstsOf(l []api.Entry) map[string]int {
	firsts := make(map[string]int, len(l))
	for i, e := range l {
		if _, ok := firsts[e.Name]; !ok {
			firsts[e.Name] = i
		}
	}
	return firsts
}

// faultOf tells what is wrong with an entry.
func faultOf(l []api.Entry, number int, firsts map[string]int) api.Errno {
	e := l[number]
	// What comes behind this looks at no more needs than there may be.
	if number >= maxPackages || len(e.Needs) > maxNeeds {
		return api.ErrMany
	}
	if !isEntry(e) {
		return api.ErrText
	}
	if firsts[e.Name] < number || hasTwice(e.Needs) {
		return api.ErrTwice
	}
	for _, need := range e.Needs {
		if _, ok := firsts[need]; !ok {
			return api.ErrNone
		}
	}
	return api.OK
}

func isEntry(e api.Entry) bool {
	for _, need := range e.Needs {
		if !Name(need) {
			return false
		}
	}
	return Name(e.Name) && isVersion(e.Version) && sum.Check(e.Digest)
}

func hasTwice(names []string) bool {
	for i, name := range names {
		if slices.Contains(names[:i], name) {
			return true
		}
	}
	return false
}

// textOf writes entries that nothing is wrong with: none of their texts has a
// byte that a string would have to escape.
func textOf(l []api.Entry) string {
	rising := slices.SortedFunc(slices.Values(l), func(a, b api.Entry) int { return cmp.Compare(a.Name, b.Name) })
	var out strings.Builder
	out.WriteString("format = " + strconv.Itoa(lockFormat) + "\n")
	for _, e := range rising {
		out.WriteString("\n[[package]]\n")
		out.WriteString("digest = " + quoted(e.Digest) + "\n")
		out.WriteString("name = " + quoted(e.Name) + "\n")
		out.WriteString("needs = " + listOf(e.Needs) + "\n")
		out.WriteString("version = " + quoted(e.Version) + "\n")
	}
	return out.String()
}

func listOf(names []string) string {
	rising := slices.Sorted(slices.Values(names))
	for i, name := range rising {
		rising[i] = quoted(name)
	}
	return "[" + strings.Join(rising, ", ") + "]"
}

func quoted(text string) string { return `"` + text + `"` }
