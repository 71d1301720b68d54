package book_test

import (
	"slices"
	"strconv"
	"strings"
	"testing"

	"pantry/api"
	"pantry/book"
	"pantry/sum"
	"pantry/toml"
)

// entry tells one that nothing is wrong with, but perhaps its needs.
func entry(name string, needs ...string) api.Entry {
	return api.Entry{Name: name, Version: "1.0.0", Digest: emptyDigest, Needs: needs}
}

// numbered tells entries p0, p1 and so on.
func numbered(count int) []api.Entry {
	var l []api.Entry
	for i := range count {
		l = append(l, entry("p"+strconv.Itoa(i)))
	}
	return l
}

func namesOf(l []api.Entry) []string {
	var names []string
	for _, e := range l {
		names = append(names, e.Name)
	}
	return names
}

// B4.
func TestPrintLock(t *testing.T) {
	abc := sum.Digest("abc")
	for _, c := range []struct {
		l    []api.Entry
		want string
	}{
		{nil, "format = 1\n"},
		{[]api.Entry{}, "format = 1\n"},
		{
			[]api.Entry{entry("a")},
			"format = 1\n\n[[package]]\ndigest = \"" + emptyDigest + "\"\nname = \"a\"\nneeds = []\nversion = \"1.0.0\"\n",
		},
		{
			[]api.Entry{{Name: "b_-0", Version: "2.1.0-x.1+y", Digest: abc, Needs: []string{"b_-0"}}},
			"format = 1\n\n[[package]]\ndigest = \"" + abc + "\"\nname = \"b_-0\"\nneeds = [\"b_-0\"]\nversion = \"2.1.0-x.1+y\"\n",
		},
		{
			// Byte by byte: - stands ahead of digits, these ahead of _, that
			// ahead of letters, and all behind nothing.
			[]api.Entry{entry("ab", "ab", "a_", "a0", "a-", "a"), entry("a_"), entry("a0", "b"), entry("b"), entry("a"), entry("a-")},
			"format = 1\n\n" + block("a", "") + "\n" + block("a-", "") + "\n" + block("a0", "\"b\"") + "\n" + block("a_", "") + "\n" +
				block("ab", "\"a\", \"a-\", \"a0\", \"a_\", \"ab\"") + "\n" + block("b", ""),
		},
	} {
		text, errno, at := book.PrintLock(c.l)
		if text != c.want || errno != api.OK || at != 0 {
			t.Errorf("PrintLock(%v) = %q, %d, %d, want %q, 0, 0", c.l, text, errno, at, c.want)
		}
	}
}

// B4: as many entries, and as many needs, as there may be; 10 stands ahead
// of 2 in a text's order.
func TestPrintLockMost(t *testing.T) {
	l := numbered(50)
	for i := range l {
		for j := range 20 {
			l[i].Needs = append(l[i].Needs, "p"+strconv.Itoa((i+7*j)%50))
		}
	}
	text, errno, at := book.PrintLock(l)
	if errno != api.OK || at != 0 {
		t.Fatalf("PrintLock = %d, %d", errno, at)
	}
	got, errno, at := book.ReadLock(text)
	if errno != api.OK || at != 0 {
		t.Fatalf("ReadLock(%q) = %d, %d", text, errno, at)
	}
	want := slices.SortedFunc(slices.Values(l), func(a, b api.Entry) int { return strings.Compare(a.Name, b.Name) })
	for i := range want {
		want[i].Needs = slices.Sorted(slices.Values(want[i].Needs))
	}
	if !sameEntries(got, want) {
		t.Errorf("read again: %v, want %v", got, want)
	}
	// The text is the one form of its tree, and that of its entries.
	if one, errno, _ := toml.Print(text); one != text || errno != api.OK {
		t.Errorf("Print = %q, %d, want %q", one, errno, text)
	}
	if again, errno, _ := book.PrintLock(got); again != text || errno != api.OK {
		t.Errorf("printed again: %q, %d, want %q", again, errno, text)
	}
}

// B4: what is handed in is not changed.
func TestPrintLockKeeps(t *testing.T) {
	l := []api.Entry{entry("b", "c", "b", "a"), entry("c"), entry("a")}
	if _, errno, _ := book.PrintLock(l); errno != api.OK {
		t.Fatalf("PrintLock = %d", errno)
	}
	if want := []api.Entry{entry("b", "c", "b", "a"), entry("c"), entry("a")}; !sameEntries(l, want) {
		t.Errorf("changed: %v, want %v", l, want)
	}
}

// B4: wrong inputs, and which of several faults is told.
func TestPrintLockFaults(t *testing.T) {
	without := func(change func(e *api.Entry)) api.Entry {
		e := entry("a")
		change(&e)
		return e
	}
	many := numbered(21)
	longVersion := "1.0.0-" + strings.Repeat("a", 95)
	for _, c := range []struct {
		about string
		l     []api.Entry
		errno api.Errno
		at    int
	}{
		{"51 entries", numbered(51), api.ErrMany, 50},
		{"many entries", numbered(1000), api.ErrMany, 50},
		{"the 51st has no name", append(numbered(50), entry("")), api.ErrMany, 50},
		{"the 51st is there already", append(numbered(50), entry("p0")), api.ErrMany, 50},
		{"a need of the 52nd is an entry", append([]api.Entry{entry("a", "p50")}, numbered(51)...), api.ErrMany, 50},
		{"a need of nothing ahead of 51 entries", append([]api.Entry{entry("a", "p51")}, numbered(51)...), api.ErrNone, 0},
		{"21 needs", append(many, entry("a", namesOf(many)...)), api.ErrMany, 21},
		{"21 needs of nothing", []api.Entry{entry("a"), entry("b", strings.Split(strings.Repeat("c", 21), "")...)}, api.ErrMany, 1},
		{"21 needs, no name", []api.Entry{entry("A", namesOf(many)...)}, api.ErrMany, 0},

		{"an empty name", []api.Entry{entry("")}, api.ErrText, 0},
		{"a great letter", []api.Entry{entry("a"), entry("A")}, api.ErrText, 1},
		{"a name of 31 bytes", []api.Entry{entry(strings.Repeat("a", 31))}, api.ErrText, 0},
		{"a quote in a name", []api.Entry{entry("a\"")}, api.ErrText, 0},
		{"no version", []api.Entry{without(func(e *api.Entry) { e.Version = "" })}, api.ErrText, 0},
		{"half a version", []api.Entry{without(func(e *api.Entry) { e.Version = "1.0" })}, api.ErrText, 0},
		{"a version out of its bounds", []api.Entry{without(func(e *api.Entry) { e.Version = "1000000000.0.0" })}, api.ErrText, 0},
		{"a version of 101 bytes", []api.Entry{without(func(e *api.Entry) { e.Version = longVersion })}, api.ErrText, 0},
		{"no digest", []api.Entry{without(func(e *api.Entry) { e.Digest = "" })}, api.ErrText, 0},
		{"a short digest", []api.Entry{without(func(e *api.Entry) { e.Digest = emptyDigest[:70] })}, api.ErrText, 0},
		{"a need that is no name", []api.Entry{entry("a", "a", "")}, api.ErrText, 0},
		{"a need that is no name, but an entry's", []api.Entry{entry("a", "B"), entry("B")}, api.ErrText, 0},
		{"no version, needs twice", []api.Entry{without(func(e *api.Entry) { e.Version, e.Needs = "x", []string{"a", "a"} })}, api.ErrText, 0},
		{"no digest, there already", []api.Entry{entry("a"), without(func(e *api.Entry) { e.Digest = "x" })}, api.ErrText, 1},
		{"a need of nothing, then no name", []api.Entry{entry("a", "b", "B")}, api.ErrText, 0},
		{"needs twice, then no name", []api.Entry{entry("a", "a", "a", "B")}, api.ErrText, 0},

		{"there already", []api.Entry{entry("a"), entry("a")}, api.ErrTwice, 1},
		{"there already, not right ahead", []api.Entry{entry("b"), entry("a"), entry("c"), entry("b")}, api.ErrTwice, 3},
		{"needs twice", []api.Entry{entry("a"), entry("b", "a", "b", "a")}, api.ErrTwice, 1},
		{"needs twice what is not there", []api.Entry{entry("a", "b", "b")}, api.ErrTwice, 0},
		{"a need of nothing, then twice", []api.Entry{entry("a", "c", "a", "a")}, api.ErrTwice, 0},
		{"there already, a need of nothing", []api.Entry{entry("a"), entry("a", "b")}, api.ErrTwice, 1},

		{"a need of nothing", []api.Entry{entry("a", "b")}, api.ErrNone, 0},
		{"a need of nothing, behind another one", []api.Entry{entry("a"), entry("b", "a", "c")}, api.ErrNone, 1},

		{"the first entry counts, not the first fault", []api.Entry{entry("a", "c"), entry("a"), entry("A")}, api.ErrNone, 0},
		{"the first entry counts, not the first fault, again", []api.Entry{entry("a"), entry("a"), entry("B"), entry("c", namesOf(many)...)}, api.ErrTwice, 1},
	} {
		text, errno, at := book.PrintLock(c.l)
		if text != "" || errno != c.errno || at != c.at {
			t.Errorf("%s: PrintLock = %q, %d, %d, want nothing, %d, %d", c.about, text, errno, at, c.errno, c.at)
		}
	}
}
