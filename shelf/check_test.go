package shelf_test

import (
	"reflect"
	"strconv"
	"strings"
	"testing"

	"pantry/api"
	"pantry/shelf"
)

// release tells a release; its needs are written as name:range.
func release(name, version string, needs ...string) api.Release {
	r := api.Release{Name: name, Version: version, Data: "data of " + name}
	for _, n := range needs {
		needed, wanted, _ := strings.Cut(n, ":")
		r.Needs = append(r.Needs, api.Need{Name: needed, Range: wanted})
	}
	return r
}

// numbered tells releases p0, p1 and so on.
func numbered(count int) []api.Release {
	var l []api.Release
	for i := range count {
		l = append(l, release("p"+strconv.Itoa(i), "1.0.0"))
	}
	return l
}

// needing tells a release with needs of p0, p1 and so on.
func needing(count int, name, version string) api.Release {
	r := release(name, version)
	for _, p := range numbered(count) {
		r.Needs = append(r.Needs, api.Need{Name: p.Name, Range: "*"})
	}
	return r
}

// K1: nothing is wrong.
func TestCheck(t *testing.T) {
	longPre := "1.0.0-" + strings.Repeat("a", 94)
	versions := make([]api.Release, 50)
	for i := range versions {
		versions[i] = release("a", strconv.Itoa(i)+".0.0")
	}
	for _, c := range []struct {
		about string
		l     []api.Release
	}{
		{"none", nil},
		{"one", []api.Release{release("a", "1.0.0")}},
		{"one that needs itself, and what is not there", []api.Release{release("a", "1.0.0", "a:>1", "b:*")}},
		{"an empty range", []api.Release{release("a", "1.0.0", "b:")}},
		{"one version of two names", []api.Release{release("a", "1.0.0"), release("b", "1.0.0")}},
		{"versions that stand apart", []api.Release{release("a", "1.0.0"), release("a", "1.0.0-0"), release("a", "1.0.0-0.0"), release("a", "1.0.1")}},
		{"needs alike in two releases", []api.Release{release("a", "1.0.0", "c:1"), release("a", "2.0.0", "c:1"), release("b", "1.0.0", "c:1")}},
		{"the longest texts", []api.Release{release(strings.Repeat("z", 30), longPre, strings.Repeat("y", 30)+":"+strings.Repeat(" ", 200))}},
		{"50 names", numbered(50)},
		{"50 versions", versions},
		{"20 needs", []api.Release{needing(20, "a", "1.0.0")}},
		{"20 needs at the end of 50", append(numbered(49), needing(20, "a", "1.0.0"))},
	} {
		if errno, at := shelf.Check(c.l); errno != api.OK || at != 0 {
			t.Errorf("%s: Check = %d, %d, want 0, 0", c.about, errno, at)
		}
	}
}

// K1: wrong inputs, and which of several faults is told.
func TestCheckFaults(t *testing.T) {
	for _, c := range []struct {
		about string
		l     []api.Release
		errno api.Errno
		at    int
	}{
		{"51 releases", numbered(51), api.ErrMany, 50},
		{"many releases", numbered(100000), api.ErrMany, 50},
		{"the 51st has no name", append(numbered(50), release("", "1.0.0")), api.ErrMany, 50},
		{"the 51st is there already", append(numbered(50), release("p0", "1.0.0")), api.ErrMany, 50},
		{"21 needs", []api.Release{release("a", "1.0.0"), needing(21, "b", "1.0.0")}, api.ErrMany, 1},
		{"21 needs alike", []api.Release{release("a", "1.0.0", strings.Fields(strings.Repeat("b:* ", 21))...)}, api.ErrMany, 0},
		{"21 needs that are none", []api.Release{release("a", "1.0.0", strings.Fields(strings.Repeat("B:! ", 21))...)}, api.ErrMany, 0},
		{"many needs, no name, no version", []api.Release{needing(100000, "A", "1")}, api.ErrMany, 0},
		{"many needs, there already", []api.Release{release("a", "1.0.0"), needing(21, "a", "1.0.0")}, api.ErrMany, 1},

		{"no name", []api.Release{release("", "1.0.0")}, api.ErrText, 0},
		{"a great letter", []api.Release{release("a", "1.0.0"), release("A", "1.0.0")}, api.ErrText, 1},
		{"a name of 31 bytes", []api.Release{release(strings.Repeat("a", 31), "1.0.0")}, api.ErrText, 0},
		{"no version", []api.Release{release("a", "")}, api.ErrText, 0},
		{"half a version", []api.Release{release("a", "1.0")}, api.ErrText, 0},
		{"needless zeros", []api.Release{release("a", "1.0.00")}, api.ErrText, 0},
		{"a version out of its bounds", []api.Release{release("a", "1000000000.0.0")}, api.ErrText, 0},
		{"a version of 101 bytes", []api.Release{release("a", "1.0.0-"+strings.Repeat("a", 95))}, api.ErrText, 0},
		{"a need that is no name", []api.Release{release("a", "1.0.0", "b:*", "C:*")}, api.ErrText, 0},
		{"a need without a name", []api.Release{release("a", "1.0.0", ":*")}, api.ErrText, 0},
		{"half a range", []api.Release{release("a", "1.0.0", "b:*", "c:^")}, api.ErrText, 0},
		{"a range out of its bounds", []api.Release{release("a", "1.0.0", "b:1000000000")}, api.ErrText, 0},
		{"a range of 201 bytes", []api.Release{release("a", "1.0.0", "b:"+strings.Repeat(" ", 201))}, api.ErrText, 0},
		{"needs alike, then no range", []api.Release{release("a", "1.0.0", "b:*", "b:*", "c:y")}, api.ErrText, 0},
		{"needs alike, no version", []api.Release{release("a", "1", "b:*", "b:*")}, api.ErrText, 0},
		{"needs alike, no name", []api.Release{release("-", "1.0.0", "b:*", "b:*")}, api.ErrText, 0},
		{"there already, no range", []api.Release{release("a", "1.0.0"), release("a", "1.0.0", "b:y")}, api.ErrText, 1},

		{"needs alike", []api.Release{release("a", "1.0.0", "b:1", "c:*", "b:2")}, api.ErrTwice, 0},
		{"needs itself twice", []api.Release{release("b", "1.0.0"), release("a", "1.0.0", "a:*", "a:*")}, api.ErrTwice, 1},
		{"there already", []api.Release{release("a", "1.0.0"), release("a", "1.0.0")}, api.ErrTwice, 1},
		{"there already, not right ahead", []api.Release{release("b", "1.0.0-a"), release("a", "1.0.0"), release("b", "2.0.0"), release("b", "1.0.0-a")}, api.ErrTwice, 3},
		{"there already but for Build", []api.Release{release("a", "1.0.0+x"), release("a", "1.0.0+y", "b:*")}, api.ErrTwice, 1},

		{"the first release counts, not the first fault", []api.Release{release("a", "1.0.0", "b:*", "b:*"), release("A", "1"), needing(21, "b", "1.0.0")}, api.ErrTwice, 0},
		{"the first release counts, not the first fault, again", []api.Release{release("a", "1.0.0"), release("b", "x"), release("a", "1.0.0"), needing(21, "b", "1.0.0")}, api.ErrText, 1},
		{"a release ahead of the 51st", append(append(numbered(49), release("p0", "1.0.0")), numbered(60)...), api.ErrTwice, 49},
	} {
		if errno, at := shelf.Check(c.l); errno != c.errno || at != c.at {
			t.Errorf("%s: Check = %d, %d, want %d, %d", c.about, errno, at, c.errno, c.at)
		}
	}
}

// What is handed in is not changed.
func TestKeeps(t *testing.T) {
	fresh := func() []api.Release {
		return []api.Release{release("b", "1.0.0", "c:*", "a:^1"), release("a", "1.0.0"), release("b", "3.0.0"), release("b", "2.0.0", "b:*")}
	}
	l := fresh()
	shelf.Check(l)
	shelf.Of(l, "b")
	shelf.Find(l, "b", "2.0.0")
	if !reflect.DeepEqual(l, fresh()) {
		t.Errorf("changed: %v, want %v", l, fresh())
	}
}
