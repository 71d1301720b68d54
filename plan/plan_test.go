package plan_test

import (
	"reflect"
	"strconv"
	"strings"
	"testing"

	"pantry/api"
	"pantry/plan"
	"pantry/sum"
)

// entries tells a lock's entries; each is written as name@version, with what
// its digest is of behind a colon, if that is something, and the names of its
// needs behind further ones.
func entries(text string) []api.Entry {
	var l []api.Entry
	for _, word := range strings.Fields(text) {
		parts := strings.Split(word, ":")
		name, version, _ := strings.Cut(parts[0], "@")
		e := api.Entry{Name: name, Version: version, Digest: sum.Digest("")}
		if len(parts) > 1 {
			e.Digest, e.Needs = sum.Digest(parts[1]), parts[2:]
		}
		l = append(l, e)
	}
	return l
}

// numbered tells entries p0, p1 and so on.
func numbered(count int) []api.Entry {
	var l []api.Entry
	for i := range count {
		l = append(l, entries("p"+strconv.Itoa(i)+"@1.0.0")...)
	}
	return l
}

// L1.
func TestPlan(t *testing.T) {
	for _, c := range []struct{ about, old, new, want string }{
		{"nothing", "", "", ""},
		{"the same", "a@1.0.0 b@2.0.0", "a@1.0.0 b@2.0.0", ""},
		{"the same in another order", "a@1.0.0 b@2.0.0", "b@2.0.0 a@1.0.0", ""},
		{"the same with Pre and Build", "a@1.0.0-x.1+y", "a@1.0.0-x.1+y", ""},
		{"other needs alone", "a@1.0.0:d:b b@1.0.0", "a@1.0.0:d b@1.0.0::a:b", ""},
		{"needs in another order", "a@1.0.0:d:a:b b@1.0.0", "a@1.0.0:d:b:a b@1.0.0", ""},

		{"one more", "", "a@1.0.0", "add a 1.0.0\n"},
		{"one more, as it is written", "", "a@1.0.0-x+y.01:d:a", "add a 1.0.0-x+y.01\n"},
		{"one less", "a@1.0.0", "", "drop a 1.0.0\n"},
		{"one less, as it is written", "a@1.0.0-x+y.01:d:a", "", "drop a 1.0.0-x+y.01\n"},
		{"one for another", "a@1.0.0", "b@1.0.0", "drop a 1.0.0\nadd b 1.0.0\n"},
		{"another for one", "b@1.0.0", "a@1.0.0", "add a 1.0.0\ndrop b 1.0.0\n"},

		{"raised", "a@1.0.0", "a@2.0.0", "raise a 1.0.0 2.0.0\n"},
		{"raised, as numbers", "a@1.9.0", "a@1.10.0", "raise a 1.9.0 1.10.0\n"},
		{"raised by its Patch", "a@1.0.9", "a@1.0.10", "raise a 1.0.9 1.0.10\n"},
		{"raised to what it was ahead of", "a@1.0.0-rc.1", "a@1.0.0", "raise a 1.0.0-rc.1 1.0.0\n"},
		{"raised by a part", "a@1.0.0-a", "a@1.0.0-a.0", "raise a 1.0.0-a 1.0.0-a.0\n"},
		{"raised, Build is written too", "a@1.0.0+z", "a@1.0.1+a", "raise a 1.0.0+z 1.0.1+a\n"},
		{"raised with another digest", "a@1.0.0:d", "a@2.0.0:e", "raise a 1.0.0 2.0.0\n"},

		{"lowered", "a@2.0.0", "a@1.0.0", "lower a 2.0.0 1.0.0\n"},
		{"lowered, as numbers", "a@1.10.0", "a@1.9.0", "lower a 1.10.0 1.9.0\n"},
		{"lowered to what is ahead of it", "a@1.0.0", "a@1.0.0-rc.1", "lower a 1.0.0 1.0.0-rc.1\n"},
		{"lowered by the numbers of a part", "a@1.0.0-10", "a@1.0.0-9", "lower a 1.0.0-10 1.0.0-9\n"},
		{"lowered with another digest", "a@2.0.0:d", "a@1.0.0:e", "lower a 2.0.0 1.0.0\n"},

		{"another digest", "a@1.0.0:d", "a@1.0.0:e", "change a 1.0.0 1.0.0\n"},
		{"another Build", "a@1.0.0+a", "a@1.0.0+b", "change a 1.0.0+a 1.0.0+b\n"},
		{"another Build, the other way round", "a@1.0.0+b", "a@1.0.0+a", "change a 1.0.0+b 1.0.0+a\n"},
		{"Build is new", "a@1.0.0", "a@1.0.0+b", "change a 1.0.0 1.0.0+b\n"},
		{"Build is gone", "a@1.0.0+b", "a@1.0.0", "change a 1.0.0+b 1.0.0\n"},
		{"another Build and digest", "a@1.0.0+a:d", "a@1.0.0+b:e", "change a 1.0.0+a 1.0.0+b\n"},
		{"another digest and other needs", "a@1.0.0:d", "a@1.0.0:e:a", "change a 1.0.0 1.0.0\n"},

		{
			"all of them, by their names",
			"f@1.0.0 e@1.0.0 d@1.0.0 c@1.0.0 b@1.0.0",
			"a@1.0.0 c@2.0.0 d@0.9.0 e@1.0.0+x f@1.0.0",
			"add a 1.0.0\ndrop b 1.0.0\nraise c 1.0.0 2.0.0\nlower d 1.0.0 0.9.0\nchange e 1.0.0 1.0.0+x\n",
		},
		{
			// - stands ahead of digits, these ahead of _, that ahead of
			// letters, and all behind nothing.
			"names byte by byte",
			"ab@1.0.0 a0@1.0.0 a@1.0.0 a_@1.0.0",
			"b@1.0.0 a_@2.0.0 a10@1.0.0 a-@1.0.0 a2@1.0.0",
			"drop a 1.0.0\nadd a- 1.0.0\ndrop a0 1.0.0\nadd a10 1.0.0\nadd a2 1.0.0\nraise a_ 1.0.0 2.0.0\ndrop ab 1.0.0\nadd b 1.0.0\n",
		},
	} {
		text, errno, at := plan.Plan(entries(c.old), entries(c.new))
		if text != c.want || errno != api.OK || at != 0 {
			t.Errorf("%s: Plan = %q, %d, %d, want %q, 0, 0", c.about, text, errno, at, c.want)
		}
	}
}

// L1: as many entries as there may be, on both sides.
func TestPlanMost(t *testing.T) {
	old, new := numbered(50), numbered(50)
	for i := range new {
		new[i].Name = "q" + new[i].Name
	}
	text, errno, at := plan.Plan(old, new)
	lines := strings.SplitAfter(text, "\n")
	if len(lines) != 101 || lines[100] != "" || errno != api.OK || at != 0 {
		t.Fatalf("Plan = %q, %d, %d, want 100 lines", text, errno, at)
	}
	for i, want := range map[int]string{
		0: "drop p0 1.0.0\n", 2: "drop p10 1.0.0\n", 49: "drop p9 1.0.0\n",
		50: "add qp0 1.0.0\n", 52: "add qp10 1.0.0\n", 99: "add qp9 1.0.0\n",
	} {
		if lines[i] != want {
			t.Errorf("line %d is %q, want %q", i, lines[i], want)
		}
	}
}

// L1: what is handed in is not changed, and the answer is the same again,
// whatever way a map is gone through.
func TestPlanKeeps(t *testing.T) {
	oldText, newText := "c@1.0.0:d:b:a b@1.0.0 a@1.0.0", "d@1.0.0 b@2.0.0:d:d:b a@1.0.0 e@1.0.0"
	old, new := entries(oldText), entries(newText)
	first, _, _ := plan.Plan(old, new)
	for range 100 {
		if again, _, _ := plan.Plan(old, new); again != first {
			t.Fatalf("Plan = %q, and then %q", first, again)
		}
	}
	if !reflect.DeepEqual(old, entries(oldText)) || !reflect.DeepEqual(new, entries(newText)) {
		t.Errorf("changed: %v, %v", old, new)
	}
}

// L1: wrong inputs, and which of several faults is told.
func TestPlanFaults(t *testing.T) {
	right := entries("a@1.0.0 b@1.0.0")
	noDigest := entries("a@1.0.0 b@1.0.0")
	noDigest[1].Digest = "sha256:"
	for _, c := range []struct {
		about    string
		old, new []api.Entry
		errno    api.Errno
		at       int
	}{
		{"old has 51 entries", numbered(51), nil, api.ErrMany, 50},
		{"new has 51 entries", nil, numbered(51), api.ErrMany, 1050},
		{"both have 51 entries", numbered(51), numbered(51), api.ErrMany, 50},
		{"both have the same many entries", numbered(2000), numbered(2000), api.ErrMany, 50},
		{"new has 2000 entries", nil, numbered(2000), api.ErrMany, 1050},
		{"old has 21 needs", entries("a@1.0.0:" + strings.Repeat(":a", 21)), right, api.ErrMany, 0},
		{"new has 21 needs", right, entries("a@1.0.0:" + strings.Repeat(":a", 21)), api.ErrMany, 1000},

		{"old has no name", entries("a@1.0.0 A@1.0.0"), right, api.ErrText, 1},
		{"new has no name", right, entries("a@1.0.0 A@1.0.0"), api.ErrText, 1001},
		{"an empty name", right, entries("@1.0.0"), api.ErrText, 1000},
		{"old has no version", entries("a@1.0"), right, api.ErrText, 0},
		{"new has no version", right, entries("a@1.0"), api.ErrText, 1000},
		{"one text that is no version", entries("a@1"), entries("a@1"), api.ErrText, 0},
		{"old has no digest", noDigest, right, api.ErrText, 1},
		{"new has no digest", right, noDigest, api.ErrText, 1001},
		{"both have one text that is no digest", noDigest, noDigest, api.ErrText, 1},
		{"old has a need that is no name", entries("a@1.0.0::A"), right, api.ErrText, 0},
		{"new has a need that is no name", right, entries("a@1.0.0::A"), api.ErrText, 1000},

		{"old has a name twice", entries("a@1.0.0 b@1.0.0 a@1.0.0"), right, api.ErrTwice, 2},
		{"new has a name twice", right, entries("a@1.0.0 b@1.0.0 a@1.0.0"), api.ErrTwice, 1002},
		{"old has a need twice", entries("a@1.0.0::a:a"), right, api.ErrTwice, 0},
		{"new has a need twice", right, entries("b@1.0.0 a@1.0.0::a:a"), api.ErrTwice, 1001},

		{"old has a need of nothing", entries("a@1.0.0::b"), right, api.ErrNone, 0},
		{"new has a need of nothing", right, entries("a@1.0.0 c@1.0.0::b"), api.ErrNone, 1001},
		{"new has a need of what old alone has", right, entries("a@1.0.0::b"), api.ErrNone, 1000},
		{"old has a need of what new alone has", entries("a@1.0.0::b"), right, api.ErrNone, 0},

		{"old's fault ahead of new's", entries("a@1.0.0 c@1.0.0 a@1.0.0"), entries("A@1.0.0"), api.ErrTwice, 2},
		{"a later one of old's ahead of new's first", entries("a@1.0.0 b@1.0.0::c"), numbered(60), api.ErrNone, 1},
	} {
		text, errno, at := plan.Plan(c.old, c.new)
		if text != "" || errno != c.errno || at != c.at {
			t.Errorf("%s: Plan = %q, %d, %d, want nothing, %d, %d", c.about, text, errno, at, c.errno, c.at)
		}
	}
}
