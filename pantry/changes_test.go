package pantry_test

import (
	"strings"
	"testing"

	"pantry/api"
	"pantry/pantry"
)

// Z2.
func TestChanges(t *testing.T) {
	ab := locked("a 1.0.0 x b", "b 2.0.0 y")
	for _, c := range []struct{ about, lock, newer, want string }{
		{"two empty ones", "", "", ""},
		{"an empty one, and one without entries", "", "format = 1\n", ""},
		{"one without entries, and an empty one", "format = 1\n", "", ""},
		{"the same", ab, ab, ""},
		{"the same entries in another text", ab, "# new\n" + strings.ReplaceAll(locked("b 2.0.0 y", "a 1.0.0 x b"), " = ", "\t=  "), ""},
		{"other needs alone", ab, locked("a 1.0.0 x", "b 2.0.0 y a b"), ""},
		{"from an empty one", "", ab, "add a 1.0.0\nadd b 2.0.0\n"},
		{"to an empty one", ab, "", "drop a 1.0.0\ndrop b 2.0.0\n"},
		{"from one without entries", "format = 1", ab, "add a 1.0.0\nadd b 2.0.0\n"},
		{"to one without entries", ab, "format = 1", "drop a 1.0.0\ndrop b 2.0.0\n"},
		{"raised", ab, locked("a 1.0.0 x b", "b 2.0.1 y"), "raise b 2.0.0 2.0.1\n"},
		{"lowered", ab, locked("a 1.0.0-x x b", "b 2.0.0 y"), "lower a 1.0.0 1.0.0-x\n"},
		{"another digest", ab, locked("a 1.0.0 x b", "b 2.0.0 z"), "change b 2.0.0 2.0.0\n"},
		{"another Build", ab, locked("a 1.0.0+1 x b", "b 2.0.0 y"), "change a 1.0.0 1.0.0+1\n"},
		{
			"all of them, by their names",
			locked("f 1.0.0 .", "e 1.0.0 .", "d 1.0.0 .", "c 1.0.0 .", "b 1.0.0 ."),
			locked("e 1.0.0 x", "a 1.0.0 .", "c 2.0.0 .", "d 0.9.0 .", "f 1.0.0 ."),
			"add a 1.0.0\ndrop b 1.0.0\nraise c 1.0.0 2.0.0\nlower d 1.0.0 0.9.0\nchange e 1.0.0 1.0.0\n",
		},
	} {
		text, errno, at := pantry.Changes(c.lock, c.newer)
		if text != c.want || errno != api.OK || at != 0 {
			t.Errorf("%s: Changes = %q, %d, %d, want %q, 0, 0", c.about, text, errno, at, c.want)
		}
	}
}

// Z2: as many packages as there may be, on both sides.
func TestChangesMost(t *testing.T) {
	most := locked(manyLines(50)...)
	text, errno, at := pantry.Changes(most, strings.ReplaceAll(most, "name = \"p", "name = \"q"))
	if strings.Count(text, "drop p") != 50 || strings.Count(text, "add q") != 50 || strings.Count(text, "\n") != 100 || errno != api.OK || at != 0 {
		t.Errorf("Changes = %q, %d, %d", text, errno, at)
	}
}

// Z2: wrong inputs; what is wrong with the newer one is told behind what is
// wrong with the other one, its places raised.
func TestChangesFaults(t *testing.T) {
	right := locked("a 1.0.0 x b", "b 2.0.0 y")
	for _, c := range []struct {
		about, text string
		errno       api.Errno
		at          int
	}{
		{"no lock", "x", api.ErrText, 1},
		{"a blank", " ", api.ErrNone, 0},
		{"a newline", "\n", api.ErrNone, 0},
		{"a comment", "# format = 1", api.ErrNone, 0},
		{"too long", strings.Repeat("\n", 100001), api.ErrLong, 0},
		{"as long as may be", strings.Repeat("\n", 100000), api.ErrNone, 0},
		{"wrong at its end", strings.Repeat("\n", 99999) + "!", api.ErrText, 99999},
		{"a number that is too great", "format = 1000000000000000000", api.ErrRange, 9},
		{"too deep", "format = [[[[[[[[[", api.ErrMany, 17},
		{"a manifest", top("a:*"), api.ErrKind, 0},
		{"another format", "format = 2", api.ErrRange, 0},
		{"a format of another kind", "\nformat = \"1\"", api.ErrKind, 1},
		{"a key twice", "format = 1\nformat = 1", api.ErrTwice, 11},
		{"a package twice", locked("a 1.0.0 .", "a 1.0.0 ."), api.ErrTwice, 11 + 136 + 96},
		{"a need twice", locked("a 1.0.0 . a a"), api.ErrTwice, 11 + 96 + 11 + 9 + 5},
		{"no version", locked("a 1.0 ."), api.ErrText, 11 + 96 + 11 + 11},
		{"51 packages", locked(manyLines(51)...), api.ErrMany, len(locked(manyLines(50)...)) + 3},
		{"a package that lacks something", "format = 1\n[[package]]", api.ErrNone, 13},
		{"a need of nothing", locked("a 1.0.0 . b"), api.ErrNone, 11 + 96 + 11 + 9},
	} {
		for _, other := range []string{"", right, "format = 2\nx", c.text} {
			text, errno, at := pantry.Changes(c.text, other)
			if text != "" || errno != c.errno || at != c.at {
				t.Errorf("%s: Changes = %q, %d, %d, want nothing, %d, %d", c.about, text, errno, at, c.errno, c.at)
			}
		}
		for _, other := range []string{"", right} {
			text, errno, at := pantry.Changes(other, c.text)
			if text != "" || errno != c.errno || at != 1000000+c.at {
				t.Errorf("newer, %s: Changes = %q, %d, %d, want nothing, %d, %d", c.about, text, errno, at, c.errno, 1000000+c.at)
			}
		}
	}
}
