package book_test

import (
	"reflect"
	"slices"
	"strconv"
	"strings"
	"testing"

	"pantry/api"
	"pantry/book"
)

// head is what a manifest has to have, without any needs: 29 bytes.
const head = "name = \"a\"\nversion = \"1.0.0\"\n"

// lines tells count lines, each with its number in the place of a #.
func lines(count int, line string) string {
	var out strings.Builder
	for i := range count {
		out.WriteString(strings.ReplaceAll(line, "#", strconv.Itoa(i)) + "\n")
	}
	return out.String()
}

func sameManifest(a, b api.Manifest) bool {
	return a.Name == b.Name && a.Version == b.Version && slices.Equal(a.Needs, b.Needs)
}

// B2.
func TestReadManifest(t *testing.T) {
	longVersion := "1.0.0-" + strings.Repeat("a", 94)
	longRange := strings.Repeat(" ", 199) + "*"
	for _, c := range []struct {
		text string
		want api.Manifest
	}{
		{head, api.Manifest{Name: "a", Version: "1.0.0"}},
		{"version = \"1.0.0\"\nname = \"a\"", api.Manifest{Name: "a", Version: "1.0.0"}},
		{head + "[needs]", api.Manifest{Name: "a", Version: "1.0.0"}},
		{head + "[needs]\nb = \"^1.2\"\na = \"*\"\nc = \"\"", api.Manifest{Name: "a", Version: "1.0.0", Needs: []api.Need{{Name: "b", Range: "^1.2"}, {Name: "a", Range: "*"}, {Name: "c"}}}},
		{"# what it is\n  \"name\" = \"\\u0061\"  # called\n\tversion=\"1.0.0\"\n\n[ \"needs\" ]\n\"b\" = \">=1 <2 || 3.x\"", api.Manifest{Name: "a", Version: "1.0.0", Needs: []api.Need{{Name: "b", Range: ">=1 <2 || 3.x"}}}},
		{"name = \"" + strings.Repeat("n", 30) + "\"\nversion = \"1.2.3-a.1+b\"", api.Manifest{Name: strings.Repeat("n", 30), Version: "1.2.3-a.1+b"}},
		{"name = \"a\"\nversion = \"" + longVersion + "\"", api.Manifest{Name: "a", Version: longVersion}},
		{head + "[needs]\nb = \"" + longRange + "\"", api.Manifest{Name: "a", Version: "1.0.0", Needs: []api.Need{{Name: "b", Range: longRange}}}},
	} {
		m, errno, at := book.ReadManifest(c.text)
		if !sameManifest(m, c.want) || errno != api.OK || at != 0 {
			t.Errorf("ReadManifest(%q) = %v, %d, %d, want %v, 0, 0", c.text, m, errno, at, c.want)
		}
	}
}

// B2: as many needs as there may be, in the order in which they stand.
func TestReadManifestMostNeeds(t *testing.T) {
	m, errno, at := book.ReadManifest(head + "[needs]\n" + lines(20, "z#-y = \"^#\""))
	if errno != api.OK || at != 0 || len(m.Needs) != 20 {
		t.Fatalf("20 needs: %v, %d, %d", m, errno, at)
	}
	for i, need := range m.Needs {
		number := strconv.Itoa(i)
		if want := (api.Need{Name: "z" + number + "-y", Range: "^" + number}); need != want {
			t.Errorf("need %d: %v, want %v", i, need, want)
		}
	}
}

// B2: wrong inputs, and which of several faults is told.
func TestReadManifestFaults(t *testing.T) {
	full := head + "[needs]\n" + lines(20, "n# = \"*\"")
	for _, c := range []struct {
		text  string
		errno api.Errno
		at    int
	}{
		// toml's faults are told ahead of all others.
		{strings.Repeat("\n", 100001), api.ErrLong, 0},
		{"name = 1\nversion", api.ErrText, 16},
		{"x = 1\nname = \"a\"\nname = \"a\"", api.ErrTwice, 17},
		{"x = 1000000000000000000", api.ErrRange, 4},
		{"x = [[[[[[[[[", api.ErrMany, 12},
		// Something is wanting.
		{"", api.ErrNone, 0},
		{"# nothing", api.ErrNone, 0},
		{"name = \"a\"", api.ErrNone, 0},
		{"\n\nversion = \"1.0.0\"", api.ErrNone, 0},
		{"\n[needs]", api.ErrNone, 0},
		{"\n[needs]\na = \"*\"", api.ErrNone, 0},
		{"version = \"1.0.0\"\n[needs]\nname = \"1\"", api.ErrNone, 0},
		{"name = \"a\"\n[needs]\nversion = \"1\"", api.ErrNone, 0},
		// The root's kids.
		{head + "x = 1", api.ErrKind, 29},
		{head + "Name = \"a\"", api.ErrKind, 29},
		{head + "\"\" = \"a\"", api.ErrKind, 29},
		{head + "[x]", api.ErrKind, 30},
		{head + "[[x]]", api.ErrKind, 31},
		{head + "[x.needs]", api.ErrKind, 30},
		{head + "digest = \"a\"", api.ErrKind, 29},
		{"name = 1", api.ErrKind, 0},
		{"name = true", api.ErrKind, 0},
		{"name = [\"a\"]", api.ErrKind, 0},
		{"[name]", api.ErrKind, 1},
		{"[[name]]", api.ErrKind, 2},
		{"name = \"\"", api.ErrText, 0},
		{" name = \"A\"", api.ErrText, 1},
		{"name = \"" + strings.Repeat("n", 31) + "\"", api.ErrText, 0},
		{"version = 1", api.ErrKind, 0},
		{"version = [1, 0, 0]", api.ErrKind, 0},
		{"[version]", api.ErrKind, 1},
		{"version = \"\"", api.ErrText, 0},
		{"version = \"1.0\"", api.ErrText, 0},
		{"version = \"1.0.0 \"", api.ErrText, 0},
		{"version = \"1000000000.0.0\"", api.ErrText, 0},
		{"version = \"1.0.0-" + strings.Repeat("a", 95) + "\"", api.ErrText, 0},
		{head + "needs = 1", api.ErrKind, 29},
		{head + "needs = \"a\"", api.ErrKind, 29},
		{head + "needs = []", api.ErrKind, 29},
		{head + "needs = [\"a\"]", api.ErrKind, 29},
		{head + "[[needs]]\na = \"*\"", api.ErrKind, 31},
		// The kids of needs; their places are those of their keys.
		{head + "[needs]\nb = 1", api.ErrKind, 37},
		{head + "[needs]\nb = true", api.ErrKind, 37},
		{head + "[needs]\nb = [\"*\"]", api.ErrKind, 37},
		{head + "[needs.b]", api.ErrKind, 36},
		{head + "[[needs.b]]", api.ErrKind, 37},
		{head + "[needs]\na = \"*\"\n[needs.b]", api.ErrKind, 52},
		{head + "[needs]\nB = 1", api.ErrKind, 37},
		{head + "[needs]\nB = \"*\"", api.ErrText, 37},
		{head + "[needs]\n\"\" = \"*\"", api.ErrText, 37},
		{head + "[needs]\n" + strings.Repeat("n", 31) + " = \"*\"", api.ErrText, 37},
		{head + "[needs]\nb = \"1.\"", api.ErrText, 37},
		{head + "[needs]\nb = \"1000000000\"", api.ErrText, 37},
		{head + "[needs]\nb = \"" + strings.Repeat(" ", 200) + "*\"", api.ErrText, 37},
		{head + "[needs]\na = \"*\"\nb = \"x\"\nc = \"y\"", api.ErrText, 53},
		{full + "n20 = \"*\"", api.ErrMany, len(full)},
		{full + "\nn20 = \"*\"\nn21 = \"*\"", api.ErrMany, len(full) + 1},
		{full + "n20 = 1", api.ErrKind, len(full)},
		{full + "n20 = \"y\"", api.ErrText, len(full)},
		{full + "N20 = \"*\"", api.ErrText, len(full)},
		// The first one by the numbers, not by what it is.
		{"version = \"1\"\nname = 2", api.ErrText, 0},
		{"name = 2\nversion = \"1\"", api.ErrKind, 0},
		{"name = \"A\"\nx = 1", api.ErrText, 0},
		{"x = 1\nname = \"A\"", api.ErrKind, 0},
		{"[needs]\nb = 1\n[x]", api.ErrKind, 8},
		{"[needs]\nb = \"*\"\n[x]", api.ErrKind, 17},
		{"x = 1", api.ErrKind, 0},
		// A header that comes back to needs makes its kid when x is there.
		{"[needs]\n[x]\n[needs.b]", api.ErrKind, 9},
		// One that is on its way to a kid of needs makes needs.
		{"[needs.b]\n[needs]\nC = \"*\"", api.ErrKind, 7},
	} {
		m, errno, at := book.ReadManifest(c.text)
		if !reflect.DeepEqual(m, api.Manifest{}) || errno != c.errno || at != c.at {
			t.Errorf("ReadManifest(%q) = %v, %d, %d, want nothing, %d, %d", c.text, m, errno, at, c.errno, c.at)
		}
	}
}

// Two answers of one text share no memory.
func TestReadManifestNew(t *testing.T) {
	text := head + "[needs]\nb = \"*\"\nc = \"*\""
	first, _, _ := book.ReadManifest(text)
	first.Needs[0].Name = "changed"
	second, errno, _ := book.ReadManifest(text)
	if want := []api.Need{{Name: "b", Range: "*"}, {Name: "c", Range: "*"}}; errno != api.OK || !reflect.DeepEqual(second.Needs, want) {
		t.Errorf("needs = %v, %d, want %v", second.Needs, errno, want)
	}
}
