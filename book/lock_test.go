package book_test

import (
	"slices"
	"strconv"
	"strings"
	"testing"

	"pantry/api"
	"pantry/book"
	"pantry/sum"
)

// emptyDigest is what a release without data has: 71 bytes.
const emptyDigest = "sha256:e3b0c44298fc1c149afbf4c8996fb92427ae41e4649b934ca495991b7852b855"

const digestLine = "digest = \"" + emptyDigest + "\"\n" // 83 bytes

// block tells a package's table; needs are written as a list's values.
func block(name, needs string) string {
	return "[[package]]\n" + digestLine + "name = \"" + name + "\"\nneeds = [" + needs + "]\nversion = \"1.0.0\"\n"
}

func sameEntries(a, b []api.Entry) bool {
	return slices.EqualFunc(a, b, func(x, y api.Entry) bool {
		return x.Name == y.Name && x.Version == y.Version && x.Digest == y.Digest && slices.Equal(x.Needs, y.Needs)
	})
}

// B3.
func TestReadLock(t *testing.T) {
	abc := sum.Digest("abc")
	for _, c := range []struct {
		text string
		want []api.Entry
	}{
		{"format = 1", nil},
		{"# a lock\n\"format\"=+1 # of today\n", nil},
		{"format = 1\n" + block("a", ""), []api.Entry{{Name: "a", Version: "1.0.0", Digest: emptyDigest}}},
		{"format = 1\n" + block("a", "\"a\""), []api.Entry{{Name: "a", Version: "1.0.0", Digest: emptyDigest, Needs: []string{"a"}}}},
		{
			"format = 1\n[[package]]\nversion = \"2.0.0-b+c\"\nneeds = [\n\"c\", # first\n\"a\",\n]\nname = \"b\"\ndigest = \"" + abc + "\"\n" + block("c", "") + block("a", "\"b\""),
			[]api.Entry{
				{Name: "b", Version: "2.0.0-b+c", Digest: abc, Needs: []string{"c", "a"}},
				{Name: "c", Version: "1.0.0", Digest: emptyDigest},
				{Name: "a", Version: "1.0.0", Digest: emptyDigest, Needs: []string{"b"}},
			},
		},
	} {
		l, errno, at := book.ReadLock(c.text)
		if !sameEntries(l, c.want) || errno != api.OK || at != 0 {
			t.Errorf("ReadLock(%q) = %v, %d, %d, want %v, 0, 0", c.text, l, errno, at, c.want)
		}
	}
}

// B3: as many packages as there may be, each with as many needs.
func TestReadLockMost(t *testing.T) {
	var needs []string
	for i := range 20 {
		needs = append(needs, "p"+strconv.Itoa(2*i))
	}
	list := "\"" + strings.Join(needs, "\", \"") + "\""
	l, errno, at := book.ReadLock("format = 1\n" + lines(50, block("p#", list)))
	if errno != api.OK || at != 0 || len(l) != 50 {
		t.Fatalf("50 packages: %v, %d, %d", l, errno, at)
	}
	for i, e := range l {
		if e.Name != "p"+strconv.Itoa(i) || !slices.Equal(e.Needs, needs) {
			t.Errorf("entry %d: %v", i, e)
		}
	}
}

type lockFault struct {
	text  string
	errno api.Errno
	at    int
}

func testLockFaults(t *testing.T, faults []lockFault) {
	t.Helper()
	for _, c := range faults {
		l, errno, at := book.ReadLock(c.text)
		if l != nil || errno != c.errno || at != c.at {
			t.Errorf("ReadLock(%q) = %v, %d, %d, want nothing, %d, %d", c.text, l, errno, at, c.errno, c.at)
		}
	}
}

// B3: toml's faults, those of the root's kids, and too many tables.
func TestReadLockRootFaults(t *testing.T) {
	full := "format = 1\n" + lines(50, block("p#", ""))
	testLockFaults(t, []lockFault{
		{strings.Repeat("\n", 100001), api.ErrLong, 0},
		{"format = 2\nformat", api.ErrText, 17},
		{"x = 1\nformat = 1\nformat = 1", api.ErrTwice, 17},
		{"x = -1000000000000000000", api.ErrRange, 4},
		{"x = [[[[[[[[[", api.ErrMany, 12},

		{"x = 1", api.ErrKind, 0},
		{"format = 1\nname = \"a\"", api.ErrKind, 11},
		{"format = 1\n[packages]", api.ErrKind, 12},
		{"format = 1\n[[x]]", api.ErrKind, 13},
		{"format = \"1\"", api.ErrKind, 0},
		{"format = true", api.ErrKind, 0},
		{"format = [1]", api.ErrKind, 0},
		{"[format]", api.ErrKind, 1},
		{"[[format]]", api.ErrKind, 2},
		{"format = 0", api.ErrRange, 0},
		{"format = 2", api.ErrRange, 0},
		{" format = -1", api.ErrRange, 1},
		{"format = 999999999999999999", api.ErrRange, 0},
		{"package = 1", api.ErrKind, 0},
		{"package = \"a\"", api.ErrKind, 0},
		{"package = []", api.ErrKind, 0},
		{"format = 1\npackage = [[]]", api.ErrKind, 11},
		{"[package]", api.ErrKind, 1},
		{"[package.name]", api.ErrKind, 1},
		{"[[package.name]]", api.ErrKind, 2},

		{full + "[[package]]", api.ErrMany, len(full) + 2},
		{full + "[[package]]\nx = 1", api.ErrMany, len(full) + 2},
		{full + "[[ \"package\" ]]\n[[package]]", api.ErrMany, len(full) + 3},
	})
}

// B3: the kids of a table, and the values in its needs. The table begins at 11
// and its first line at 23.
func TestReadLockEntryFaults(t *testing.T) {
	const table = "format = 1\n[[package]]\n"
	values := strings.TrimSuffix(strings.Join(strings.Fields(lines(20, "\"p#\",")), " "), ",")
	full := table + "needs = [" + values
	testLockFaults(t, []lockFault{
		{table + "x = 1", api.ErrKind, 23},
		{table + "format = 1", api.ErrKind, 23},
		{table + "[package.x]", api.ErrKind, 32},
		{table + "[[package.x]]", api.ErrKind, 33},

		{table + "name = 1", api.ErrKind, 23},
		{table + "name = [\"a\"]", api.ErrKind, 23},
		{table + "[package.name]", api.ErrKind, 32},
		{table + "name = \"\"", api.ErrText, 23},
		{table + "name = \"A\"", api.ErrText, 23},
		{table + "version = 1", api.ErrKind, 23},
		{table + "[[package.version]]", api.ErrKind, 33},
		{table + "version = \"1\"", api.ErrText, 23},
		{table + "version = \"1000000000.0.0\"", api.ErrText, 23},
		{table + "version = \"1.0.0-" + strings.Repeat("a", 95) + "\"", api.ErrText, 23},
		{table + "digest = 1", api.ErrKind, 23},
		{table + "digest = false", api.ErrKind, 23},
		{table + "digest = \"\"", api.ErrText, 23},
		{table + "digest = \"sha256:" + strings.Repeat("A", 64) + "\"", api.ErrText, 23},
		{table + "digest = \"" + emptyDigest + "0\"", api.ErrText, 23},
		{table + "needs = 1", api.ErrKind, 23},
		{table + "needs = \"a\"", api.ErrKind, 23},
		{table + "[package.needs]", api.ErrKind, 32},
		{table + "[[package.needs]]", api.ErrKind, 33},

		{table + "needs = [1]", api.ErrKind, 32},
		{table + "needs = [true]", api.ErrKind, 32},
		{table + "needs = [[\"a\"]]", api.ErrKind, 32},
		{table + "needs = [[\"A\"]]", api.ErrKind, 32},
		{table + "needs = [ \"\"]", api.ErrText, 33},
		{table + "needs = [\"a\", \"A\"]", api.ErrText, 37},
		{table + "needs = [\"a\", \"b\", \"a\", \"b\"]", api.ErrTwice, 42},
		{full + ", \"p20\"]", api.ErrMany, len(full) + 2},
		{full + ", \"p20\", 1]", api.ErrMany, len(full) + 2},
		{full + ", 1]", api.ErrKind, len(full) + 2},
		{full + ", \"P\"]", api.ErrText, len(full) + 2},
		{full + ", \"p0\"]", api.ErrTwice, len(full) + 2},
		{full + ", \"p19\"]", api.ErrTwice, len(full) + 2},

		{table + "name = \"a\"\n[[package]]\nname = \"a\"", api.ErrTwice, 46},
		{table + "name = \"a\"\n[[package]]\nname = \"b\"\n[[package]]\nname = \"a\"", api.ErrTwice, 69},
		{table + "name = \"a\"\n[[package]]\n[[package]]\nname = \"a\"", api.ErrTwice, 58},
	})
}

// B3: something is not there; and which of several faults is told.
func TestReadLockLacks(t *testing.T) {
	const format = "format = 1\n"
	a, b, c := block("a", "\"b\""), block("b", ""), block("c", "\"a\", \"d\", \"e\"")
	testLockFaults(t, []lockFault{
		{"", api.ErrNone, 0},
		{"\n# nothing\n", api.ErrNone, 0},
		{a + b, api.ErrNone, 0},
		{"\n[[package]]", api.ErrNone, 0},
		{block("a", "\"c\""), api.ErrNone, 0},

		{format + "[[package]]", api.ErrNone, 13},
		{format + strings.Replace(a, digestLine, "", 1) + b, api.ErrNone, 13},
		{format + strings.Replace(a, "name = \"a\"\n", "", 1) + b, api.ErrNone, 13},
		{format + strings.Replace(a, "needs = [\"b\"]\n", "", 1) + b, api.ErrNone, 13},
		{format + strings.Replace(a, "version = \"1.0.0\"\n", "", 1) + b, api.ErrNone, 13},
		{format + a + b + "[[package]]\nname = \"c\"", api.ErrNone, len(format+a+b) + 2},
		{format + a + b + "[[package]]\n[[package]]", api.ErrNone, len(format+a+b) + 2},

		// Tables that lack something count ahead of needs that are not there.
		{format + a + "[[package]]", api.ErrNone, len(format+a) + 2},
		{format + a, api.ErrNone, strings.Index(format+a, "\"b\"")},
		{format + b + a + c, api.ErrNone, strings.Index(format+b+a+c, "\"d\"")},
		{format + block("a", "\"b\", \"c\"") + block("b", "\"d\""), api.ErrNone, strings.Index(format+block("a", "\"b\", \"c\""), "\"c\"")},

		// All that is wrong at a node counts ahead of what is not there.
		{a + "[x]", api.ErrKind, len(a) + 1},
		{"[[package]]\nname = \"A\"", api.ErrText, 12},
		{"[[package]]\n[x]\n[package.name]", api.ErrKind, 13},
		{"[[package]]\nname = \"a\"\n[[package]]\nname = \"a\"\n[format]", api.ErrTwice, 35},
		{"format = 2\n[[package]]\nname = 1", api.ErrRange, 0},
		{"[[package]]\nneeds = [\"a\", \"a\"]\nname = 1", api.ErrTwice, 26},
		{"[[package]]\nname = 1\nneeds = [\"a\", \"a\"]", api.ErrKind, 12},
	})
}

// The needs of two entries, and those of two answers, share no memory.
func TestReadLockNew(t *testing.T) {
	text := "format = 1\n" + block("a", "\"a\"") + block("b", "\"a\"") + block("c", "")
	first, _, _ := book.ReadLock(text)
	for i := range first {
		first[i].Needs = append(first[i].Needs, "x", "y", "z")
		first[i].Needs[0] = "changed"
	}
	for i, want := range []int{4, 4, 3} {
		if len(first[i].Needs) != want || !slices.Equal(first[i].Needs[want-2:], []string{"y", "z"}) {
			t.Errorf("needs of %d: %q", i, first[i].Needs)
		}
	}
	second, errno, at := book.ReadLock(text)
	want := []api.Entry{
		{Name: "a", Version: "1.0.0", Digest: emptyDigest, Needs: []string{"a"}},
		{Name: "b", Version: "1.0.0", Digest: emptyDigest, Needs: []string{"a"}},
		{Name: "c", Version: "1.0.0", Digest: emptyDigest},
	}
	if !sameEntries(second, want) || errno != api.OK || at != 0 {
		t.Errorf("ReadLock = %v, %d, %d, want %v", second, errno, at, want)
	}
}
