package shelf_test

import (
	"math/rand"
	"regexp"
	"testing"

	"pantry/api"
	"pantry/ranges"
	"pantry/shelf"
	"pantry/ver"
)

// The tests here hold the calls against models that take the chapter's words
// one by one.

var nameForm = regexp.MustCompile(`^[a-z][a-z0-9_-]{0,29}$`)

// together tells whether both texts are versions, and stand together.
func together(a, b string) bool {
	v, errno, _ := ver.Parse(a)
	w, other, _ := ver.Parse(b)
	return errno == api.OK && other == api.OK && ver.Compare(v, w) == 0
}

// modelCheck looks for each of K1's faults on its own.
func modelCheck(l []api.Release) (api.Errno, int) {
	for i, r := range l {
		text, twice := !nameForm.MatchString(r.Name) || !together(r.Version, r.Version), false
		for j, n := range r.Needs {
			_, errno, _ := ranges.Parse(n.Range)
			text = text || !nameForm.MatchString(n.Name) || errno != api.OK
			for _, other := range r.Needs[:j] {
				twice = twice || other.Name == n.Name
			}
		}
		for _, other := range l[:i] {
			twice = twice || other.Name == r.Name && together(other.Version, r.Version)
		}
		switch {
		case i >= 50 || len(r.Needs) > 20:
			return api.ErrMany, i
		case text:
			return api.ErrText, i
		case twice:
			return api.ErrTwice, i
		}
	}
	return api.OK, 0
}

func checkShelf(t *testing.T, l []api.Release) api.Errno {
	errno, at := shelf.Check(l)
	if wantErrno, wantAt := modelCheck(l); errno != wantErrno || at != wantAt {
		t.Fatalf("Check(%v) = %d, %d, want %d, %d", l, errno, at, wantErrno, wantAt)
	}
	return errno
}

// checkOf looks that just the right numbers stand in Of, each once, and that
// each two of them stand in the right order.
func checkOf(t *testing.T, l []api.Release, name string) {
	got := shelf.Of(l, name)
	count := 0
	for _, r := range l {
		if r.Name == name && together(r.Version, r.Version) {
			count++
		}
	}
	if len(got) != count {
		t.Fatalf("Of(%v, %q) = %v, want %d numbers", l, name, got, count)
	}
	for i, number := range got {
		v, errno, _ := ver.Parse(l[number].Version)
		if l[number].Name != name || errno != api.OK {
			t.Fatalf("Of(%v, %q) = %v: %d is not to be there", l, name, got, number)
		}
		for _, later := range got[i+1:] {
			w, _, _ := ver.Parse(l[later].Version)
			if order := ver.Compare(v, w); order < 0 || order == 0 && number >= later {
				t.Fatalf("Of(%v, %q) = %v: %d stands ahead of %d", l, name, got, number, later)
			}
		}
	}
}

func checkFind(t *testing.T, l []api.Release, name, version string) {
	want := -1
	for i := len(l) - 1; i >= 0; i-- {
		if l[i].Name == name && together(l[i].Version, version) {
			want = i
		}
	}
	if got := shelf.Find(l, name, version); got != want {
		t.Fatalf("Find(%v, %q, %q) = %d, want %d", l, name, version, got, want)
	}
}

var (
	someNames    = []string{"a", "b", "A"}
	someVersions = []string{"1.0.0", "1.0.0+x", "2.0.0-a", "2.0.0", "0.0.0", "1.0"}
)

func someReleases() []api.Release {
	var l []api.Release
	for _, name := range someNames {
		for _, version := range someVersions {
			for _, needs := range [][]string{nil, {"a:*"}, {"a:^1", "b:2"}, {"a:1", "a:1"}, {"A:*"}, {"b:y"}, {"c:*", "c:*", "c:y"}} {
				l = append(l, release(name, version, needs...))
			}
		}
	}
	return l
}

// K1, K2: all shelves of up to two of some releases, and some longer ones.
func TestShelfModel(t *testing.T) {
	seen := map[api.Errno]int{}
	check := func(l ...api.Release) {
		seen[checkShelf(t, l)]++
		for _, name := range someNames {
			checkOf(t, l, name)
			for _, version := range someVersions {
				checkFind(t, l, name, version)
			}
		}
	}
	some := someReleases()
	r := rand.New(rand.NewSource(1))
	for _, a := range some {
		check(a)
		for _, b := range some {
			check(a, b)
		}
	}
	for range 2000 {
		var l []api.Release
		for range r.Intn(12) {
			l = append(l, some[r.Intn(len(some))])
		}
		check(l...)
		check(append(numbered(45+r.Intn(6)), l...)...)
		check(append(l, needing(19+r.Intn(3), "b", "1.0.0"))...)
	}
	for _, errno := range []api.Errno{api.OK, api.ErrText, api.ErrMany, api.ErrTwice} {
		if seen[errno] == 0 {
			t.Errorf("no shelf of error %d", errno)
		}
	}
}
