package pantry_test

import (
	"math"
	"reflect"
	"strconv"
	"strings"
	"testing"

	"pantry/api"
	"pantry/pantry"
	"pantry/sum"
)

// wants tells needs; each is written as name:range.
func wants(words ...string) []api.Need {
	var l []api.Need
	for _, word := range words {
		name, admitted, _ := strings.Cut(word, ":")
		l = append(l, api.Need{Name: name, Range: admitted})
	}
	return l
}

// stock tells releases; each is written as name, version, data and needs, with
// blanks between, and a . in the stead of no data.
func stock(lines ...string) []api.Release {
	var l []api.Release
	for _, line := range lines {
		words := strings.Fields(line)
		l = append(l, api.Release{Name: words[0], Version: words[1], Data: strings.Trim(words[2], "."), Needs: wants(words[3:]...)})
	}
	return l
}

// numbered tells releases p0, p1 and so on, without data.
func numbered(count int) []api.Release {
	var l []api.Release
	for i := range count {
		l = append(l, api.Release{Name: "p" + strconv.Itoa(i), Version: "1.0.0"})
	}
	return l
}

// top tells a manifest with such needs.
func top(needs string) string {
	text := "name = \"top\"\nversion = \"0.1.0\"\n[needs]\n"
	for _, n := range wants(strings.Fields(needs)...) {
		text += n.Name + " = \"" + n.Range + "\"\n"
	}
	return text
}

// locked tells a lock's text; each entry is written as name, version, data and
// the names of its needs, as in stock, and stands in the text as it stands
// here.
func locked(lines ...string) string {
	text := "format = 1\n"
	for _, r := range stock(lines...) {
		var needs []string
		for _, n := range r.Needs {
			needs = append(needs, "\""+n.Name+"\"")
		}
		text += "\n[[package]]\ndigest = \"" + sum.Digest(r.Data) + "\"\nname = \"" + r.Name + "\"\nneeds = [" + strings.Join(needs, ", ") + "]\nversion = \"" + r.Version + "\"\n"
	}
	return text
}

func checkRelock(t *testing.T, about, manifest, lock string, l []api.Release, fuel int, want string, wantErrno api.Errno, wantAt int, wantName string) {
	t.Helper()
	text, errno, at, name := pantry.Relock(manifest, lock, l, fuel)
	if text != want || errno != wantErrno || at != wantAt || name != wantName {
		t.Errorf("%s: Relock = %q, %d, %d, %q, want %q, %d, %d, %q", about, text, errno, at, name, want, wantErrno, wantAt, wantName)
	}
}

// Z1: a lock, byte by byte.
func TestRelockText(t *testing.T) {
	l := []api.Release{
		{Name: "b", Version: "1.0.0", Data: "abc"},
		{Name: "a", Version: "1.2.0-x+y", Needs: []api.Need{{Name: "b", Range: "^1"}, {Name: "a", Range: "*"}}},
	}
	want := `format = 1

[[package]]
digest = "sha256:e3b0c44298fc1c149afbf4c8996fb92427ae41e4649b934ca495991b7852b855"
name = "a"
needs = ["a", "b"]
version = "1.2.0-x+y"

[[package]]
digest = "sha256:ba7816bf8f01cfea414140de5dae2223b00361a396177a9cb410ff61f20015ad"
name = "b"
needs = []
version = "1.0.0"
`
	checkRelock(t, "two", top("a:*"), "", l, 2, want, api.OK, 0, "")
}

// Z1: locks, and that each locked again, with the same fuel, is the same.
func TestRelock(t *testing.T) {
	example := stock("a 2.0.0 . b:^2", "a 1.0.0 .", "b 1.0.0 .")
	abc := stock("a 1.0.0 x", "a 3.0.0 z", "a 2.0.0 y", "b 1.0.0 b1 a:<3", "b 2.0.0 b2")
	for _, c := range []struct {
		about, needs, lock string
		l                  []api.Release
		fuel               int
		want               string
	}{
		{"nothing", "", "", nil, 0, "format = 1\n"},
		{"nothing of something", "", "", abc, 0, "format = 1\n"},
		{"nothing of something, with a lock", "", locked("a 1.0.0 x"), abc, 0, "format = 1\n"},
		{"a lock without entries", "", "format = 1", nil, 0, "format = 1\n"},
		{"the document's example", "a:*", "", example, 3, locked("a 1.0.0 .")},
		{"no fuel is needed where nothing is", "", "", nil, -1, "format = 1\n"},
		{"much fuel", "a:*", "", example, math.MaxInt, locked("a 1.0.0 .")},

		{"the newest", "a:*", "", abc, 1, locked("a 3.0.0 z")},
		{"the newest, a lock without entries", "a:*", "format = 1\n", abc, 1, locked("a 3.0.0 z")},
		{"the newest, a lock of others", "a:*", locked("b 2.0.0 b2"), abc, 1, locked("a 3.0.0 z")},
		{"what the lock has", "a:*", locked("a 2.0.0 y"), abc, 1, locked("a 2.0.0 y")},
		{"what the lock has, with other needs", "a:* b:*", locked("b 1.0.0 b1", "a 2.0.0 y b"), abc, 2, locked("a 2.0.0 y", "b 1.0.0 b1 a")},
		{"what the lock has is not wanted", "a:^3", locked("a 2.0.0 y"), abc, 2, locked("a 3.0.0 z")},
		{"what the lock has is not there", "a:*", locked("a 4.0.0 y"), abc, 1, locked("a 3.0.0 z")},
		{"what the lock has too is not told", "a:*", locked("a 2.0.0 y", "b 2.0.0 b2", "c 1.0.0 ."), abc, 1, locked("a 2.0.0 y")},

		{"by the names, not as on the shelf or in needs", "c:* b:* a:*", "", stock("b 1.0.0 .", "c 1.0.0 .", "a 1.0.0 ."), 3, locked("a 1.0.0 .", "b 1.0.0 .", "c 1.0.0 .")},
		{"needs by their names", "a:*", "", stock("a 1.0.0 . c:* a-:* a:1 b:^1", "c 1.0.0 .", "a- 1.0.0 .", "b 1.0.0 ."), 4, locked("a 1.0.0 . a a- b c", "a- 1.0.0 .", "b 1.0.0 .", "c 1.0.0 .")},

		{"a version as on the shelf, without Build", "a:*", locked("a 1.0.0+x d"), stock("a 2.0.0 e", "a 1.0.0 d"), 1, locked("a 1.0.0 d")},
		{"a version as on the shelf, with Build", "a:*", locked("a 1.0.0 d"), stock("a 2.0.0 e", "a 1.0.0+x d"), 1, locked("a 1.0.0+x d")},
		{"a version as on the shelf, with another Build", "a:*", locked("a 1.0.0+y d"), stock("a 2.0.0 e", "a 1.0.0-x d", "a 1.0.0+x d"), 1, locked("a 1.0.0+x d")},

		{"another digest of another version", "a:^3", locked("a 2.0.0 other"), abc, 2, locked("a 3.0.0 z")},
		{"another digest of a version that is not there", "a:*", locked("a 2.5.0 other"), abc, 1, locked("a 3.0.0 z")},
		{"another digest of a version that does not fit", "b:1 a:*", locked("a 3.0.0 other"), abc, 4, locked("a 2.0.0 y", "b 1.0.0 b1 a")},
		{"another digest of what is not chosen", "a:*", locked("a 3.0.0 z", "b 2.0.0 other"), abc, 1, locked("a 3.0.0 z")},
		{"another digest of the same version of another name", "a:*", locked("b 3.0.0 other", "a 3.0.0 z"), abc, 1, locked("a 3.0.0 z")},
	} {
		checkRelock(t, c.about, top(c.needs), c.lock, c.l, c.fuel, c.want, api.OK, 0, "")
		checkRelock(t, c.about+", again", top(c.needs), c.want, c.l, c.fuel, c.want, api.OK, 0, "")
	}
}

// Z1: data of any bytes and of some length.
func TestRelockData(t *testing.T) {
	for _, data := range []string{"", "\x00", "\xff\xfe\n\"", strings.Repeat("a", 55), strings.Repeat("b", 64), strings.Repeat("c", 1000000)} {
		l := []api.Release{{Name: "a", Version: "1.0.0", Data: data}}
		want := strings.Replace(locked("a 1.0.0 ."), sum.Digest(""), sum.Digest(data), 1)
		checkRelock(t, "new", top("a:*"), "", l, 1, want, api.OK, 0, "")
		checkRelock(t, "again", top("a:*"), want, l, 1, want, api.OK, 0, "")
		l[0].Data += " "
		checkRelock(t, "changed", top("a:*"), want, l, 1, "", api.ErrDigest, 0, "a")
	}
}

// Z1: as many releases as there may be, all of them chosen, with as many needs.
func TestRelockMost(t *testing.T) {
	l := numbered(50)
	for i := range l {
		for j := range 20 {
			l[i].Needs = append(l[i].Needs, api.Need{Name: "p" + strconv.Itoa((i+7*j)%50), Range: "^1 || >=1.0.0-0 <2"})
		}
	}
	text, errno, at, name := pantry.Relock(top("p0:*"), "", l, 50)
	if strings.Count(text, "[[package]]\n") != 50 || strings.Count(text, "\"p") != 50*21 || errno != api.OK || at != 0 || name != "" {
		t.Fatalf("Relock = %q, %d, %d, %q", text, errno, at, name)
	}
	checkRelock(t, "again", top("p0:*"), text, l, 50, text, api.OK, 0, "")
	checkRelock(t, "no fuel", top("p0:*"), text, l, 49, "", api.ErrFuel, 0, "")
	l[49].Data, l[5].Data = "x", "x"
	checkRelock(t, "changed", top("p0:*"), text, l, 50, "", api.ErrDigest, 0, "p49")
}

// Z1: what is kept is not what it was.
func TestRelockDigest(t *testing.T) {
	abc := stock("c 1.0.0 c", "a 1.0.0 a", "b 1.0.0 b")
	for _, c := range []struct {
		about, needs, lock string
		l                  []api.Release
		fuel               int
		want               string
	}{
		{"one", "a:*", locked("a 1.0.0 other"), abc, 1, "a"},
		{"it had no data", "a:*", locked("a 1.0.0 ."), abc, 1, "a"},
		{"it has no data", "a:*", locked("a 1.0.0 other"), stock("a 1.0.0 ."), 1, "a"},
		{"the first one of all", "c:* b:* a:*", locked("c 1.0.0 x", "b 1.0.0 x", "a 1.0.0 x"), abc, 3, "a"},
		{"the first one is as it was", "c:* b:* a:*", locked("c 1.0.0 x", "b 1.0.0 x", "a 1.0.0 a"), abc, 3, "b"},
		{"the first one is not in the lock", "c:* b:* a:*", locked("c 1.0.0 x", "b 1.0.0 x"), abc, 3, "b"},
		{"the first one is of another version", "c:* b:* a:*", locked("c 1.0.0 x", "b 1.0.0 x", "a 2.0.0 x"), abc, 3, "b"},
		{"the last one alone", "c:* b:* a:*", locked("a 1.0.0 a", "b 1.0.0 b", "c 1.0.0 x"), abc, 3, "c"},
		{"by the names, byte by byte", "a_:* a0:* a:* a-:*", locked("a_ 1.0.0 x", "a0 1.0.0 x", "a- 1.0.0 x", "a 1.0.0 ."), stock("a_ 1.0.0 .", "a0 1.0.0 .", "a- 1.0.0 .", "a 1.0.0 ."), 4, "a-"},
		{"the lock has a Build", "a:*", locked("a 1.0.0+x other"), abc, 1, "a"},
		{"the shelf has a Build", "a:*", locked("a 1.0.0 other"), stock("a 1.0.0+x a"), 1, "a"},
		{"both have another Build", "a:*", locked("a 1.0.0+y other"), stock("a 2.0.0 b", "a 1.0.0+x a"), 1, "a"},
		{"the data of two are changed for each other's", "b:* a:*", locked("a 1.0.0 b", "b 1.0.0 a"), abc, 2, "a"},
		{"a need's need", "a:*", locked("b 1.0.0 other", "a 1.0.0 . b"), stock("a 1.0.0 . b:*", "b 1.0.0 ."), 2, "b"},
		{"other needs too", "a:*", locked("a 1.0.0 other a"), abc, 1, "a"},
	} {
		checkRelock(t, c.about, top(c.needs), c.lock, c.l, c.fuel, "", api.ErrDigest, 0, c.want)
		checkRelock(t, c.about+", one try less", top(c.needs), c.lock, c.l, c.fuel-1, "", api.ErrFuel, 0, "")
	}
}

// Z1: wrong inputs, and which of several faults is told.
func TestRelockFaults(t *testing.T) {
	const long = 100001
	right := stock("a 1.0.0 x", "b 2.0.0 y a:*")
	twice := stock("a 1.0.0 x", "b 2.0.0 y", "a 1.0.0+z x")
	other := locked("a 1.0.0 other")
	manyNeeds := stock("a 1.0.0 .", "b 1.0.0 ."+strings.Repeat(" a:*", 21))
	for _, c := range []struct {
		about, manifest, lock string
		l                     []api.Release
		fuel                  int
		errno                 api.Errno
		at                    int
	}{
		{"an empty manifest", "", "", right, 9, api.ErrNone, 0},
		{"a manifest that is too long", strings.Repeat("\n", long), "", right, 9, api.ErrLong, 0},
		{"no manifest", "name", "", right, 9, api.ErrText, 4},
		{"a manifest with a key twice", "name = \"a\"\nname = \"a\"", "", right, 9, api.ErrTwice, 11},
		{"a manifest with another key", "name = \"a\"\nlicence = \"b\"", "", right, 9, api.ErrKind, 11},
		{"a manifest with no version", "name = \"a\"\nversion = \"1\"", "", right, 9, api.ErrText, 11},
		{"a manifest with no range", top("a:* b:^"), "", right, 9, api.ErrText, 39 + 8},
		{"a manifest with 21 needs", top(strings.Join(manyNames(21), " ")), "", right, 9, api.ErrMany, 39 + 10*9 + 10*10},
		{"a manifest without a name", "version = \"0.1.0\"", "", right, 9, api.ErrNone, 0},

		{"a lock that is too long", top(""), strings.Repeat("\n", long), right, 9, api.ErrLong, 1000000},
		{"a lock that is not empty, but has no format", top(""), "\n", right, 9, api.ErrNone, 1000000},
		{"no lock", top(""), "x", right, 9, api.ErrText, 1000001},
		{"no lock, far behind", top(""), strings.Repeat("\n", long-2) + "=", right, 9, api.ErrText, 1000000 + long - 2},
		{"a manifest for a lock", top(""), top(""), right, 9, api.ErrKind, 1000000},
		{"a lock of another format", top(""), "\nformat = 2", right, 9, api.ErrRange, 1000001},
		{"a lock with no digest", top(""), "format = 1\n[[package]]\ndigest = \"\"", right, 9, api.ErrText, 1000023},
		{"a lock with a name twice", top(""), locked("a 1.0.0 .", "a 1.0.0 ."), right, 9, api.ErrTwice, 1000000 + 11 + 136 + 96},
		{"a lock with 51 packages", top(""), locked(manyLines(51)...), right, 9, api.ErrMany, 1000000 + len(locked(manyLines(50)...)) + 3},
		{"a lock that lacks something", top(""), "format = 1\n[[package]]", right, 9, api.ErrNone, 1000013},
		{"a lock with a need of nothing", top(""), locked("a 1.0.0 . b"), right, 9, api.ErrNone, 1000000 + 11 + 116},

		{"51 releases", top(""), "", numbered(51), 9, api.ErrMany, 2000050},
		{"many releases", top(""), "", numbered(3000), 9, api.ErrMany, 2000050},
		{"a release with 21 needs", top(""), "", manyNeeds, 9, api.ErrMany, 2000001},
		{"a release of no name", top(""), "", stock("A 1.0.0 x"), 9, api.ErrText, 2000000},
		{"a release of no version", top(""), "", stock("a 1.0.0 x", "a 1.0 x"), 9, api.ErrText, 2000001},
		{"a release with a need of no range", top(""), "", stock("a 1.0.0 x b:^"), 9, api.ErrText, 2000000},
		{"a release twice", top(""), "", twice, 9, api.ErrTwice, 2000002},
		{"a release with a need twice", top(""), "", stock("a 1.0.0 x b:1 b:2"), 9, api.ErrTwice, 2000000},

		{"nothing of that name", top("c:*"), "", right, 9, api.ErrUnsat, 0},
		{"nothing at all", top("a:*"), "", nil, 0, api.ErrUnsat, 0},
		{"nothing of that range", top("a:2"), "", right, 1, api.ErrUnsat, 0},
		{"nothing of a need's name", top("a:*"), "", stock("a 1.0.0 . b:*"), 1, api.ErrUnsat, 0},
		{"what the lock has is not on the shelf", top("c:*"), locked("c 1.0.0 ."), right, 9, api.ErrUnsat, 0},
		{"no fuel", top("a:*"), "", right, 0, api.ErrFuel, 0},
		{"less than no fuel", top("a:*"), "", right, -1, api.ErrFuel, 0},
		{"much less than no fuel", top("a:*"), "", right, math.MinInt, api.ErrFuel, 0},
		{"too little fuel", top("b:*"), "", right, 1, api.ErrFuel, 0},
		{"too little fuel to say that there is nothing", top("a:2"), "", right, 0, api.ErrFuel, 0},

		{"all is wrong", "x", "y", twice, 0, api.ErrText, 1},
		{"all but the manifest", top("a:*"), "y=", twice, 0, api.ErrText, 1000002},
		{"the manifest, then another digest", "name = \"a\"", other, right, 9, api.ErrNone, 0},
		{"the lock, then no solution", top("c:*"), "format = 0", right, 9, api.ErrRange, 1000000},
		{"the shelf, then no fuel", top("a:*"), other, twice, 0, api.ErrTwice, 2000002},
		{"the shelf, then no solution", top("c:*"), "", twice, 9, api.ErrTwice, 2000002},
		{"the shelf, then another digest", top("a:*"), other, twice, 9, api.ErrTwice, 2000002},
		{"no solution, then another digest", top("a:* c:*"), other, right, 9, api.ErrUnsat, 0},
		{"no fuel, then another digest", top("a:*"), other, right, 0, api.ErrFuel, 0},
	} {
		checkRelock(t, c.about, c.manifest, c.lock, c.l, c.fuel, "", c.errno, c.at, "")
	}
}

// manyNames tells needs of p0, p1 and so on.
func manyNames(count int) []string {
	var words []string
	for _, r := range numbered(count) {
		words = append(words, r.Name+":*")
	}
	return words
}

// manyLines tells entries p0, p1 and so on.
func manyLines(count int) []string {
	var lines []string
	for _, r := range numbered(count) {
		lines = append(lines, r.Name+" 1.0.0 .")
	}
	return lines
}

// Z1: what is handed in is not changed, not even behind its end.
func TestRelockKeeps(t *testing.T) {
	lines := []string{"b 1.0.0 . c:* a:*", "c 1.0.0 x", "a 1.0.0 y b:1", "d 1.0.0 ."}
	l := stock(lines...)
	if _, errno, _, _ := pantry.Relock(top("b:*"), locked("c 1.0.0 x", "a 1.0.0 y"), l[:3], 9); errno != api.OK {
		t.Fatalf("Relock = %d", errno)
	}
	if !reflect.DeepEqual(l, stock(lines...)) {
		t.Errorf("changed: %v", l)
	}
	first, _, _, _ := pantry.Relock(top("b:*"), "", l, 9)
	for range 20 {
		checkRelock(t, "again", top("b:*"), "", l, 9, first, api.OK, 0, "")
	}
}
