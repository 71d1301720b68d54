package shelf_test

import (
	"slices"
	"strconv"
	"strings"
	"testing"

	"pantry/api"
	"pantry/shelf"
)

// mixed is a shelf with much that Check refuses.
func mixed() []api.Release {
	return []api.Release{
		release("a", "1.0.0"),                             // 0
		release("b", "9.0.0"),                             // 1
		release("a", "2.0.0-a.10"),                        // 2
		release("a", "10.0.0"),                            // 3
		release("a", "1.0"),                               // 4: no version
		release("a", "2.0.0-a.9"),                         // 5
		release("a", "2.0.0"),                             // 6
		release("a", "1.0.0+x"),                           // 7: stands with 0
		release("A", "1.0.0"),                             // 8: no name
		release("a", ""),                                  // 9: no version
		release("a", "2.0.0+y"),                           // 10: stands with 6
		release("a", "1.0.0"),                             // 11: stands with 0
		release("", "3.0.0"),                              // 12: no name
		release("aa", "1.0.0"),                            // 13
		release("a", "9.0.0", "b:y", "b:y", "C:*"),        // 14: wrong needs
		release("a", "1.0.0-"+strings.Repeat("a", 95)),    // 15: too long
		release("a", "1000000000.0.0"),                    // 16: out of its bounds
		release("a", "999999999.999999999.999999999-0+0"), // 17
		needing(21, "a", "9.0.0-z"),                       // 18: too many needs
		release("a", "0.0.0"),                             // 19
	}
}

// K2: Of.
func TestOf(t *testing.T) {
	for _, c := range []struct {
		name string
		want []int
	}{
		{"a", []int{17, 3, 14, 18, 6, 10, 2, 5, 0, 7, 11, 19}},
		{"b", []int{1}},
		{"aa", []int{13}},
		{"c", nil},
		{"A", []int{8}},
		{"", []int{12}},
	} {
		if got := shelf.Of(mixed(), c.name); !slices.Equal(got, c.want) {
			t.Errorf("Of(%q) = %v, want %v", c.name, got, c.want)
		}
	}
	if got := shelf.Of(nil, "a"); len(got) != 0 {
		t.Errorf("Of nothing = %v", got)
	}
}

// K2: Find.
func TestFind(t *testing.T) {
	for _, c := range []struct {
		name, version string
		want          int
	}{
		{"a", "1.0.0", 0},
		{"a", "1.0.0+x", 0},
		{"a", "1.0.0+other", 0},
		{"a", "2.0.0", 6},
		{"a", "2.0.0-a.9", 5},
		{"a", "2.0.0-a.10+b", 2},
		{"a", "2.0.0-a", -1},
		{"a", "9.0.0", 14},
		{"a", "9.0.0-z", 18},
		{"a", "999999999.999999999.999999999-0", 17},
		{"a", "0.0.0", 19},
		{"b", "9.0.0", 1},
		{"b", "1.0.0", -1},
		{"c", "1.0.0", -1},
		{"A", "1.0.0", 8},
		{"", "3.0.0", 12},
		{"aa", "1.0.0", 13},

		// No version stands together with another text, not even with itself.
		{"a", "1.0", -1},
		{"a", "", -1},
		{"a", "1000000000.0.0", -1},
		{"a", "1.0.0-" + strings.Repeat("a", 95), -1},
		{"a", "01.0.0", -1},
		{"a", "0.0.00", -1},
	} {
		if got := shelf.Find(mixed(), c.name, c.version); got != c.want {
			t.Errorf("Find(%q, %q) = %d, want %d", c.name, c.version, got, c.want)
		}
	}
	if got := shelf.Find(nil, "a", "1.0.0"); got != -1 {
		t.Errorf("Find in nothing = %d, want -1", got)
	}
}

// K2: a shelf may be longer than Check lets pass.
func TestOfLong(t *testing.T) {
	const count = 100000
	l := make([]api.Release, count)
	for i := range l {
		l[i] = release("a", strconv.Itoa(i/2)+".0.0")
	}
	got := shelf.Of(l, "a")
	if len(got) != count {
		t.Fatalf("Of has %d numbers, want %d", len(got), count)
	}
	for i, number := range got {
		// From the last two on, and of each two the lesser one first.
		if want := count - 2 - i/2*2 + i%2; number != want {
			t.Fatalf("the number at %d is %d, want %d", i, number, want)
		}
	}
	if got := shelf.Find(l, "a", "49999.0.0"); got != count-2 {
		t.Errorf("Find = %d, want %d", got, count-2)
	}
}

// An answer is new memory: it does not change with another one.
func TestOfNew(t *testing.T) {
	l := []api.Release{release("a", "1.0.0"), release("a", "2.0.0")}
	first := shelf.Of(l, "a")
	first[0], first[1] = 7, 8
	if second := shelf.Of(l, "a"); !slices.Equal(second, []int{1, 0}) {
		t.Errorf("Of = %v, want [1 0]", second)
	}
}
