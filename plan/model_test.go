package plan_test

import (
	"math/rand"
	"strings"
	"testing"

	"pantry/api"
	"pantry/book"
	"pantry/plan"
	"pantry/ver"
)

// modelPlan takes the chapter's words one by one: it asks for each name that
// there may be, in their order, who has it.
func modelPlan(old, new []api.Entry, names []string) (string, api.Errno, int) {
	if _, errno, at := book.PrintLock(old); errno != api.OK {
		return "", errno, at
	}
	if _, errno, at := book.PrintLock(new); errno != api.OK {
		return "", errno, at + 1000
	}
	text := ""
	for _, name := range names {
		text += modelLine(having(old, name), having(new, name), name)
	}
	return text, api.OK, 0
}

// having tells the entries of a name.
func having(l []api.Entry, name string) []api.Entry {
	var found []api.Entry
	for _, e := range l {
		if e.Name == name {
			found = append(found, e)
		}
	}
	return found
}

func modelLine(old, new []api.Entry, name string) string {
	words := []string{"", name}
	for _, e := range append(old, new...) {
		words = append(words, e.Version)
	}
	switch {
	case len(old)+len(new) == 0:
		return ""
	case len(old) == 0:
		words[0] = "add"
	case len(new) == 0:
		words[0] = "drop"
	case old[0].Version == new[0].Version && old[0].Digest == new[0].Digest:
		return ""
	default:
		v, _, _ := ver.Parse(old[0].Version)
		w, _, _ := ver.Parse(new[0].Version)
		words[0] = []string{"lower", "change", "raise"}[ver.Compare(w, v)+1]
	}
	return strings.Join(words, " ") + "\n"
}

// someEntries tells entries of which mostly no two have one name.
func someEntries(r *rand.Rand, names []string) []api.Entry {
	var l []api.Entry
	for range r.Intn(8) {
		name := names[r.Intn(len(names))]
		if len(having(l, name)) > 0 && r.Intn(30) > 0 {
			continue
		}
		versions := []string{"1.0.0", "1.0.0+x", "1.0.0-a", "1.0.0-a.1", "2.0.0", "10.0.0", "0.9.9"}
		word := name + "@" + versions[r.Intn(len(versions))] + ":" + []string{"d", "e", ""}[r.Intn(3)]
		if r.Intn(3) == 0 {
			word += ":" + name
		}
		if r.Intn(60) == 0 {
			word += ":" + []string{"a", "z", "Z"}[r.Intn(3)]
		}
		l = append(l, entries(word)...)
	}
	if r.Intn(60) == 0 {
		l = append(l, entries([]string{"A@1.0.0", "zz@1", "z-z@1.0.0::y"}[r.Intn(3)])...)
	}
	return l
}

// L1: locks at will.
func TestPlanModel(t *testing.T) {
	names := []string{"a", "a-", "a-b", "a0", "a_", "ab", "b"}
	seen := map[string]int{}
	r := rand.New(rand.NewSource(1))
	for range 20000 {
		old, new := someEntries(r, names), someEntries(r, names)
		want, wantErrno, wantAt := modelPlan(old, new, names)
		text, errno, at := plan.Plan(old, new)
		if text != want || errno != wantErrno || at != wantAt {
			t.Fatalf("Plan(%v, %v) = %q, %d, %d, want %q, %d, %d", old, new, text, errno, at, want, wantErrno, wantAt)
		}
		for _, line := range strings.Split(text, "\n") {
			verb, _, _ := strings.Cut(line, " ")
			seen[verb]++
		}
		if errno != api.OK && at >= 1000 {
			seen["an error of new"]++
		} else if errno != api.OK {
			seen["an error of old"]++
		}
	}
	for _, what := range []string{"", "add", "drop", "raise", "lower", "change", "an error of old", "an error of new"} {
		if seen[what] == 0 {
			t.Errorf("nothing of %q in %v", what, seen)
		}
	}
}
