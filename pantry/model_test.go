package pantry_test

import (
	"math/rand"
	"slices"
	"strings"
	"testing"

	"pantry/api"
	"pantry/book"
	"pantry/pantry"
	"pantry/shelf"
	"pantry/solve"
	"pantry/sum"
)

// The tests here hold both calls against models that take the chapter's words
// one by one, in stories of shelves that change between one lock and the next.

// answer is what Relock answers.
type answer struct {
	text  string
	errno api.Errno
	at    int
	name  string
}

func relock(manifest, lock string, l []api.Release, fuel int) answer {
	text, errno, at, name := pantry.Relock(manifest, lock, l, fuel)
	return answer{text, errno, at, name}
}

func modelRelock(manifest, lock string, l []api.Release, fuel int) answer {
	m, errno, at := book.ReadManifest(manifest)
	if errno != api.OK {
		return answer{errno: errno, at: at}
	}
	if lock == "" {
		lock = "format = 1"
	}
	old, errno, at := book.ReadLock(lock)
	if errno != api.OK {
		return answer{errno: errno, at: at + 1000000}
	}
	errno, at = shelf.Check(l)
	if errno != api.OK {
		return answer{errno: errno, at: at + 2000000}
	}
	chosen, errno := solve.Solve(m.Needs, l, old, fuel)
	if errno != api.OK {
		return answer{errno: errno}
	}
	if names := changedNames(l, chosen, old); len(names) > 0 {
		return answer{errno: api.ErrDigest, name: slices.Min(names)}
	}
	text, errno, at := book.PrintLock(chosenEntries(l, chosen))
	return answer{text, errno, at, ""}
}

// changedNames tells the chosen releases that are not what they were: Find
// tells which release an entry means.
func changedNames(l []api.Release, chosen []int, old []api.Entry) []string {
	var names []string
	for _, e := range old {
		number := shelf.Find(l, e.Name, e.Version)
		if slices.Contains(chosen, number) && sum.Digest(l[number].Data) != e.Digest {
			names = append(names, e.Name)
		}
	}
	return names
}

func chosenEntries(l []api.Release, chosen []int) []api.Entry {
	var entries []api.Entry
	for _, number := range chosen {
		r := l[number]
		var needs []string
		for _, n := range r.Needs {
			needs = append(needs, n.Name)
		}
		entries = append(entries, api.Entry{Name: r.Name, Version: r.Version, Digest: sum.Digest(r.Data), Needs: needs})
	}
	return entries
}

var (
	someNames    = []string{"a", "a-", "b", "c", "d"}
	someRanges   = []string{"*", "*", "*", "1", "2", ">=2", "<2", "1||3", "^1.1"}
	someVersions = []string{"1.0.0", "1.0.0+x", "1.1.0-x", "1.1.0", "2.0.0", "2.0.0+x", "3.0.0"}
	someData     = []string{"", "d", "e"}
)

func oneOf(r *rand.Rand, all []string) string { return all[r.Intn(len(all))] }

// someNeeds tells needs of names that are not alike.
func someNeeds(r *rand.Rand, most int) []string {
	var words []string
	for _, i := range r.Perm(len(someNames))[:r.Intn(most+1)] {
		words = append(words, someNames[i]+":"+oneOf(r, someRanges))
	}
	return words
}

// someStock tells releases that mostly stand apart.
func someStock(r *rand.Rand) []api.Release {
	var l []api.Release
	for range r.Intn(16) {
		one := api.Release{Name: oneOf(r, someNames), Version: oneOf(r, someVersions), Data: oneOf(r, someData), Needs: wants(someNeeds(r, 2)...)}
		if shelf.Find(l, one.Name, one.Version) < 0 || r.Intn(200) == 0 {
			l = append(l, one)
		}
	}
	return l
}

// nextStock tells the shelf some time later: some releases are gone, have
// other data, another Build or other needs, and there are new ones.
func nextStock(r *rand.Rand, l []api.Release) []api.Release {
	var next []api.Release
	for _, one := range l {
		switch r.Intn(12) {
		case 0:
			continue
		case 1:
			one.Data = oneOf(r, someData)
		case 2:
			core, _, _ := strings.Cut(one.Version, "+")
			one.Version = core + oneOf(r, []string{"", "+y"})
		case 3:
			one.Needs = wants(someNeeds(r, 2)...)
		}
		next = append(next, one)
	}
	for _, one := range someStock(r) {
		if r.Intn(3) == 0 && shelf.Find(next, one.Name, one.Version) < 0 {
			next = append(next, one)
		}
	}
	r.Shuffle(len(next), func(i, j int) { next[i], next[j] = next[j], next[i] })
	return next
}

// spoiled tells a text with something mostly wrong in it, but now and then
// only.
func spoiled(r *rand.Rand, text string) string {
	if r.Intn(40) > 0 {
		return text
	}
	at := r.Intn(len(text) + 1)
	return text[:at] + oneOf(r, []string{"x", "\"", "\n", "1", " "}) + text[at:]
}

// follow tells the lock's entries that the lines of a plan lead to: names with
// their versions.
func follow(t *testing.T, entries []api.Entry, lines string) map[string]string {
	versions := map[string]string{}
	for _, e := range entries {
		versions[e.Name] = e.Version
	}
	for _, line := range strings.Split(strings.TrimSuffix(lines, "\n"), "\n") {
		words := strings.Split(line, " ")
		switch words[0] {
		case "":
		case "add":
			versions[words[1]] = words[2]
		case "drop":
			delete(versions, words[1])
		case "raise", "lower", "change":
			versions[words[1]] = words[3]
		default:
			t.Fatalf("the line %q", line)
		}
	}
	return versions
}

// checkChanges looks that a plan leads from the one lock to the other one.
func checkChanges(t *testing.T, lock, newer string) {
	lines, errno, at := pantry.Changes(lock, newer)
	if errno != api.OK || at != 0 {
		t.Fatalf("Changes(%q, %q) = %d, %d", lock, newer, errno, at)
	}
	var from []api.Entry
	if lock != "" {
		from, _, _ = book.ReadLock(lock)
	}
	to, _, _ := book.ReadLock(newer)
	got := follow(t, from, lines)
	if len(got) != len(to) {
		t.Fatalf("Changes(%q, %q) = %q: it leads to %v", lock, newer, lines, got)
	}
	for _, e := range to {
		if got[e.Name] != e.Version {
			t.Fatalf("Changes(%q, %q) = %q: it leads to %v", lock, newer, lines, got)
		}
	}
	if lines, errno, _ := pantry.Changes(newer, newer); lines != "" || errno != api.OK {
		t.Fatalf("Changes(%q, itself) = %q, %d", newer, lines, errno)
	}
}

// Z1, Z2: each story begins without a lock, and goes on from lock to lock.
func TestStories(t *testing.T) {
	seen := map[api.Errno]int{}
	r := rand.New(rand.NewSource(1))
	for range 1500 {
		lock, l := "", someStock(r)
		for range 6 {
			manifest := spoiled(r, top(strings.Join(someNeeds(r, 3), " ")))
			given, fuel := spoiled(r, lock), r.Intn(30)-1
			got, want := relock(manifest, given, l, fuel), modelRelock(manifest, given, l, fuel)
			if got != want {
				t.Fatalf("Relock(%q, %q, %v, %d) = %v, want %v", manifest, given, l, fuel, got, want)
			}
			seen[got.errno]++
			if got.errno == api.OK {
				if again := relock(manifest, got.text, l, fuel); again != got {
					t.Fatalf("Relock(%q, %q, %v, %d) = %v: another lock", manifest, got.text, l, fuel, again)
				}
				checkChanges(t, given, got.text)
				lock = got.text
			}
			l = nextStock(r, l)
		}
	}
	for _, errno := range []api.Errno{api.OK, api.ErrText, api.ErrTwice, api.ErrNone, api.ErrKind, api.ErrUnsat, api.ErrDigest, api.ErrFuel} {
		if seen[errno] == 0 {
			t.Errorf("no error %d in %v", errno, seen)
		}
	}
}
