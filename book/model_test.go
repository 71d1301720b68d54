package book_test

import (
	"math/rand"
	"regexp"
	"slices"
	"strings"
	"testing"

	"pantry/api"
	"pantry/book"
	"pantry/ranges"
	"pantry/sum"
	"pantry/toml"
	"pantry/ver"
)

// The tests here hold the readers against a model that looks for every fault
// on its own, in any order, and then tells the one with the least number.

var nameForm = regexp.MustCompile(`^[a-z][a-z0-9_-]{0,29}$`)

// faults are those of a tree; of one node they are found in their order.
type faults struct {
	nodes []api.Node
	found []fault
}

type fault struct {
	node  int
	errno api.Errno
}

// when adds a fault, if it is one.
func (f *faults) when(wrong bool, node int, errno api.Errno) {
	if wrong {
		f.found = append(f.found, fault{node, errno})
	}
}

func (f *faults) first() (api.Errno, int) {
	if len(f.found) == 0 {
		return api.OK, 0
	}
	slices.SortStableFunc(f.found, func(a, b fault) int { return a.node - b.node })
	return f.found[0].errno, f.nodes[f.found[0].node].At
}

// kid tells a table's kid with that key, or nothing.
func (f *faults) kid(table int, key string) (int, bool) {
	for _, k := range f.nodes[table].Kids {
		if f.nodes[k].Key == key {
			return k, true
		}
	}
	return 0, false
}

func (f *faults) isKind(node, kind int) bool { return f.nodes[node].Kind == kind }

// keys adds the faults of a table's keys that are none of these.
func (f *faults) keys(table int, keys ...string) {
	for _, k := range f.nodes[table].Kids {
		f.when(!slices.Contains(keys, f.nodes[k].Key), k, api.ErrKind)
	}
}

// text adds the faults of a table's key that has to be a string of a kind.
func (f *faults) text(table int, key string, is func(string) bool) {
	if k, ok := f.kid(table, key); ok {
		f.when(!f.isKind(k, toml.String), k, api.ErrKind)
		f.when(!is(f.nodes[k].Text), k, api.ErrText)
	}
}

func isVersion(text string) bool {
	_, errno, _ := ver.Parse(text)
	return errno == api.OK
}

func isRange(text string) bool {
	_, errno, _ := ranges.Parse(text)
	return errno == api.OK
}

func modelManifest(text string) (api.Manifest, api.Errno, int) {
	nodes, errno, at := toml.Parse(text)
	if errno != api.OK {
		return api.Manifest{}, errno, at
	}
	f := &faults{nodes: nodes}
	f.keys(0, "name", "version", "needs")
	f.text(0, "name", nameForm.MatchString)
	f.text(0, "version", isVersion)
	needs, _ := f.kid(0, "needs")
	var wanted []api.Need
	if needs > 0 {
		f.when(!f.isKind(needs, toml.Table), needs, api.ErrKind)
		for i, k := range nodes[needs].Kids {
			f.when(!f.isKind(k, toml.String), k, api.ErrKind)
			f.when(!nameForm.MatchString(nodes[k].Key) || !isRange(nodes[k].Text), k, api.ErrText)
			f.when(i >= 20, k, api.ErrMany)
			wanted = append(wanted, api.Need{Name: nodes[k].Key, Range: nodes[k].Text})
		}
	}
	if errno, at := f.first(); errno != api.OK {
		return api.Manifest{}, errno, at
	}
	name, named := f.kid(0, "name")
	version, versioned := f.kid(0, "version")
	if !named || !versioned {
		return api.Manifest{}, api.ErrNone, 0
	}
	return api.Manifest{Name: nodes[name].Text, Version: nodes[version].Text, Needs: wanted}, api.OK, 0
}

func modelLock(text string) ([]api.Entry, api.Errno, int) {
	nodes, errno, at := toml.Parse(text)
	if errno != api.OK {
		return nil, errno, at
	}
	f := &faults{nodes: nodes}
	f.keys(0, "format", "package")
	format, formatted := f.kid(0, "format")
	if formatted {
		f.when(!f.isKind(format, toml.Integer), format, api.ErrKind)
		f.when(nodes[format].Num != 1, format, api.ErrRange)
	}
	var tables []int
	if list, ok := f.kid(0, "package"); ok {
		f.when(!f.isKind(list, toml.Tables), list, api.ErrKind)
		tables = nodes[list].Kids
	}
	for i, table := range tables {
		f.when(i >= 50, table, api.ErrMany)
		f.entry(tables[:i], table)
	}
	if errno, at := f.first(); errno != api.OK {
		return nil, errno, at
	}
	if !formatted {
		return nil, api.ErrNone, 0
	}
	return f.entries(tables)
}

// entry adds the faults of a package's table; others are those ahead of it.
func (f *faults) entry(others []int, table int) {
	f.keys(table, "name", "version", "digest", "needs")
	f.text(table, "name", nameForm.MatchString)
	f.text(table, "version", isVersion)
	f.text(table, "digest", sum.Check)
	if name, ok := f.kid(table, "name"); ok {
		for _, other := range others {
			k, ok := f.kid(other, "name")
			f.when(ok && f.nodes[k].Text == f.nodes[name].Text, name, api.ErrTwice)
		}
	}
	if needs, ok := f.kid(table, "needs"); ok {
		f.when(!f.isKind(needs, toml.List), needs, api.ErrKind)
		for i, k := range f.nodes[needs].Kids {
			f.when(!f.isKind(k, toml.String), k, api.ErrKind)
			f.when(!nameForm.MatchString(f.nodes[k].Text), k, api.ErrText)
			for _, ahead := range f.nodes[needs].Kids[:i] {
				f.when(f.nodes[ahead].Text == f.nodes[k].Text, k, api.ErrTwice)
			}
			f.when(i >= 20, k, api.ErrMany)
		}
	}
}

// entries makes entries of tables without faults, if nothing is wanting.
func (f *faults) entries(tables []int) ([]api.Entry, api.Errno, int) {
	var l []api.Entry
	for _, table := range tables {
		var found [4]int
		for i, key := range []string{"name", "version", "digest", "needs"} {
			k, ok := f.kid(table, key)
			if !ok {
				return nil, api.ErrNone, f.nodes[table].At
			}
			found[i] = k
		}
		e := api.Entry{Name: f.nodes[found[0]].Text, Version: f.nodes[found[1]].Text, Digest: f.nodes[found[2]].Text}
		for _, k := range f.nodes[found[3]].Kids {
			e.Needs = append(e.Needs, f.nodes[k].Text)
		}
		l = append(l, e)
	}
	for _, table := range tables {
		needs, _ := f.kid(table, "needs")
		for _, k := range f.nodes[needs].Kids {
			if !slices.Contains(namesOf(l), f.nodes[k].Text) {
				return nil, api.ErrNone, f.nodes[k].At
			}
		}
	}
	return l, api.OK, 0
}

func checkManifest(t *testing.T, text string) api.Errno {
	m, errno, at := book.ReadManifest(text)
	want, wantErrno, wantAt := modelManifest(text)
	if !sameManifest(m, want) || errno != wantErrno || at != wantAt {
		t.Fatalf("ReadManifest(%q) = %v, %d, %d, want %v, %d, %d", text, m, errno, at, want, wantErrno, wantAt)
	}
	return errno
}

func checkLock(t *testing.T, text string) api.Errno {
	l, errno, at := book.ReadLock(text)
	want, wantErrno, wantAt := modelLock(text)
	if !sameEntries(l, want) || errno != wantErrno || at != wantAt {
		t.Fatalf("ReadLock(%q) = %v, %d, %d, want %v, %d, %d", text, l, errno, at, want, wantErrno, wantAt)
	}
	return errno
}

// eachText gives all texts of up to so many lines, each one of these.
func eachText(lines []string, most int, give func(text string)) {
	texts := []string{""}
	for range most + 1 {
		var longer []string
		for _, text := range texts {
			give(text)
			for _, line := range lines {
				longer = append(longer, text+line+"\n")
			}
		}
		texts = longer
	}
}

// someText tells lines chosen at will from these.
func someText(r *rand.Rand, lines []string, count int) string {
	var out strings.Builder
	for range count {
		out.WriteString(lines[r.Intn(len(lines))] + "\n")
	}
	return out.String()
}

var manifestLines = []string{
	`name = "a"`, `name = "A"`, `name = 1`,
	`version = "1.0.0"`, `version = "1"`, `version = []`,
	`needs = []`, `[needs]`, `[[needs]]`, `[needs.a]`, `[x]`,
	`a = "*"`, `b = "^1"`, `c = "y"`, `D = ""`, `e = true`,
}

// B2.
func TestManifestModel(t *testing.T) {
	seen := map[api.Errno]int{}
	eachText(manifestLines, 4, func(text string) { seen[checkManifest(t, text)]++ })
	r := rand.New(rand.NewSource(1))
	good := []string{`a1 = "*"`, `a2 = "*"`, `a3 = ""`, `a4 = "~1"`, `a5 = "2.x"`}
	for range 20000 {
		text := head + "[needs]\n" + lines(r.Intn(22), "n# = \"*\"") + someText(r, append(good, manifestLines...), r.Intn(4))
		seen[checkManifest(t, text)]++
	}
	for _, errno := range []api.Errno{api.OK, api.ErrText, api.ErrMany, api.ErrTwice, api.ErrNone, api.ErrKind} {
		if seen[errno] == 0 {
			t.Errorf("no text of error %d", errno)
		}
	}
}

var lockLines = []string{
	`format = 1`, `format = 2`, `format = true`,
	`[[package]]`, `[package]`, `[package.needs]`, `[[package.needs]]`, `[x]`,
	`name = "a"`, `name = "b"`, `name = "B"`, `name = 1`,
	`version = "1.0.0"`, `version = "1"`, `version = true`,
	strings.TrimSpace(digestLine), `digest = "sha256:0"`, `digest = 1`,
	`needs = []`, `needs = ["a"]`, `needs = ["b", "c"]`, `needs = ["a", "b", "a"]`, `needs = ["a", ["b"]]`, `needs = ["B"]`, `needs = ""`,
}

// B3.
func TestLockModel(t *testing.T) {
	seen := map[api.Errno]int{}
	check := func(text string) { seen[checkLock(t, text)]++ }
	eachText(lockLines, 3, check)
	blocks := append([]string{block("a", ""), block("b", `"a"`), block("c", `"b", "a"`), block("d", `"c", "e"`)}, lockLines...)
	eachText(blocks, 2, func(text string) { check("format = 1\n" + text) })
	r := rand.New(rand.NewSource(2))
	good := []string{"[[package]]", `name = "a"`, `version = "1.0.0"`, strings.TrimSpace(digestLine), "needs = []", `needs = ["a"]`}
	for range 30000 {
		check("format = 1\n[[package]]\n" + someText(r, append(blocks, good...), r.Intn(12)))
		check("format = 1\n[[package]]\n" + someText(r, good, r.Intn(12)))
		order := r.Perm(4)
		var text strings.Builder
		text.WriteString("format = 1\n")
		for _, i := range order[:1+r.Intn(4)] {
			text.WriteString(blocks[i])
		}
		check(text.String())
	}
	for range 300 {
		check("format = 1\n" + lines(47+r.Intn(5), block("p#", `"p0"`)) + someText(r, lockLines, r.Intn(3)))
		values := strings.Join(strings.Fields(lines(18+r.Intn(5), `"p#",`)), " ")
		check("format = 1\n" + lines(24, block("p#", "")) + block("q", values+[]string{"", `"p0"`, `"r"`, `"R"`, "1"}[r.Intn(5)]))
	}
	for _, errno := range []api.Errno{api.OK, api.ErrText, api.ErrRange, api.ErrMany, api.ErrTwice, api.ErrNone, api.ErrKind} {
		if seen[errno] == 0 {
			t.Errorf("no text of error %d", errno)
		}
	}
}

// modelPrintFault looks for each of B4's faults on its own.
func modelPrintFault(l []api.Entry) (api.Errno, int) {
	for i, e := range l {
		ahead, count := namesOf(l[:i]), map[string]int{}
		text, none := !nameForm.MatchString(e.Name) || !isVersion(e.Version) || !sum.Check(e.Digest), false
		twice := slices.Contains(ahead, e.Name)
		for _, need := range e.Needs {
			count[need]++
			text = text || !nameForm.MatchString(need)
			twice = twice || count[need] > 1
			none = none || !slices.Contains(namesOf(l), need)
		}
		switch {
		case i >= 50 || len(e.Needs) > 20:
			return api.ErrMany, i
		case text:
			return api.ErrText, i
		case twice:
			return api.ErrTwice, i
		case none:
			return api.ErrNone, i
		}
	}
	return api.OK, 0
}

func someEntries() []api.Entry {
	var l []api.Entry
	for _, name := range []string{"a", "b", "c", "A"} {
		for _, version := range []string{"1.0.0", "1"} {
			for _, digest := range []string{emptyDigest, "sha256:"} {
				for _, needs := range [][]string{nil, {"a"}, {"b"}, {"b", "a"}, {"a", "a"}, {"A"}, {"d", "d"}} {
					l = append(l, api.Entry{Name: name, Version: version, Digest: digest, Needs: needs})
				}
			}
		}
	}
	return l
}

// B4: all lists of up to two entries, and some of three; what is printed is
// read as the same entries, rising.
func TestPrintLockModel(t *testing.T) {
	some := someEntries()
	check := func(l ...api.Entry) {
		text, errno, at := book.PrintLock(l)
		wantErrno, wantAt := modelPrintFault(l)
		if errno != wantErrno || at != wantAt || errno != api.OK && text != "" {
			t.Fatalf("PrintLock(%v) = %q, %d, %d, want %d, %d", l, text, errno, at, wantErrno, wantAt)
		}
		if errno != api.OK {
			return
		}
		want := slices.SortedFunc(slices.Values(l), func(a, b api.Entry) int { return strings.Compare(a.Name, b.Name) })
		for i := range want {
			want[i].Needs = slices.Sorted(slices.Values(want[i].Needs))
		}
		if got, errno, at := book.ReadLock(text); !sameEntries(got, want) || errno != api.OK || at != 0 {
			t.Fatalf("PrintLock(%v), read: %v, %d, %d", l, got, errno, at)
		}
		if one, _, _ := toml.Print(text); one != text {
			t.Fatalf("PrintLock(%v) = %q, want the one form %q", l, text, one)
		}
	}
	r := rand.New(rand.NewSource(3))
	for _, a := range some {
		check(a)
		for _, b := range some {
			check(a, b)
			check(a, b, some[r.Intn(len(some))])
		}
	}
}
