package solve_test

import (
	"math"
	"strconv"
	"strings"
	"testing"

	"pantry/api"
	"pantry/solve"
)

// wants tells needs; each is written as name:range, with blanks between.
func wants(text string) []api.Need {
	var l []api.Need
	for _, word := range strings.Fields(text) {
		name, admitted, _ := strings.Cut(word, ":")
		l = append(l, api.Need{Name: name, Range: admitted})
	}
	return l
}

// stock tells releases; each is written as name, version and needs, with
// blanks between.
func stock(texts ...string) []api.Release {
	var l []api.Release
	for _, text := range texts {
		name, rest, _ := strings.Cut(text, " ")
		version, needs, _ := strings.Cut(rest, " ")
		l = append(l, api.Release{Name: name, Version: version, Needs: wants(needs), Data: text})
	}
	return l
}

// numbered tells releases p0, p1 and so on.
func numbered(count int) []api.Release {
	var l []api.Release
	for i := range count {
		l = append(l, api.Release{Name: "p" + strconv.Itoa(i), Version: "1.0.0"})
	}
	return l
}

// Q1.
func TestGood(t *testing.T) {
	ab := stock("a 1.0.0 b:^1", "b 1.0.0", "b 2.0.0", "c 1.0.0")
	ring := stock("a 1.0.0", "b 1.0.0 c:*", "c 1.0.0 b:*", "d 1.0.0 d:*")
	chain := stock("d 1.0.0", "c 1.0.0 d:*", "b 1.0.0 c:*", "a 1.0.0 b:*")
	for _, c := range []struct {
		about  string
		needs  string
		l      []api.Release
		chosen []int
		want   bool
	}{
		{"nothing of nothing", "", nil, nil, true},
		{"nothing of something", "", ab, nil, true},
		{"a need and what it needs", "a:*", ab, []int{0, 1}, true},
		{"in any order", "a:*", ab, []int{1, 0}, true},
		{"wanted twice", "b:* a:*", ab, []int{0, 1}, true},
		{"wanted from far, all ahead", "a:*", chain, []int{0, 1, 2, 3}, true},
		{"wanted from far, all behind", "a:*", chain, []int{3, 2, 1, 0}, true},
		{"a ring that is wanted", "b:*", ring, []int{1, 2}, true},
		{"one that needs itself", "d:1.0.0", ring, []int{3}, true},
		{"needs of a release that is not chosen", "b:*", ab, []int{2}, true},
		{"a version with Build", "a:=1.0.0", stock("a 1.0.0+x"), []int{0}, true},
		{"a version with Pre", "a:^1", stock("a 1.0.0-x"), []int{0}, true},

		{"a shelf that Check refuses", "", stock("a 1.0"), nil, false},
		{"a shelf that Check refuses, but not what is chosen", "b:*", stock("b 1.0.0", "a 1.0.0", "a 1.0.0+x"), []int{0}, false},
		{"a shelf of 50", "p49:*", numbered(50), []int{49}, true},
		{"a shelf of 51", "p49:*", numbered(51), []int{49}, false},
		{"a need that is no name", "a:* A:*", ab, []int{0, 1}, false},
		{"a need of no range", "c:^", ab, []int{3}, false},
		{"two needs of one name", "c:* c:*", ab, []int{3}, false},

		{"a number below 0", "a:*", ab, []int{0, 1, -1}, false},
		{"a number that is the shelf's length", "a:*", ab, []int{0, 1, 4}, false},
		{"a number of nothing", "", nil, []int{0}, false},
		{"far numbers", "", ab, []int{math.MaxInt}, false},
		{"far numbers below 0", "", ab, []int{math.MinInt}, false},
		{"64 above a number", "c:*", ab, []int{3 + 64}, false},
		{"two of one name", "b:*", ab, []int{1, 2}, false},
		{"one twice", "c:*", ab, []int{3, 3}, false},

		{"a need that is not there", "c:* d:*", ab, []int{3}, false},
		{"a need that is not chosen", "a:* c:*", ab, []int{0, 1}, false},
		{"a need that does not admit", "c:>1", ab, []int{3}, false},
		{"a need of a release that is not chosen", "a:*", ab, []int{0}, false},
		{"a need of a release that does not admit", "a:*", ab, []int{0, 2}, false},
		{"a need of a release that is not there", "a:*", stock("a 1.0.0 z:*"), []int{0}, false},
		{"one that does not admit itself", "a:*", stock("a 1.0.0 a:>1"), []int{0}, false},
		{"a need that is met, a need of a release that is not", "a:* b:^2", ab, []int{0, 2}, false},
		{"a need of a release that is met, a need that is not", "a:* b:^2", ab, []int{0, 1}, false},

		{"one that is not wanted", "a:*", ab, []int{0, 1, 3}, false},
		{"one that is not wanted, alone", "", ab, []int{3}, false},
		{"wanted by a release that is not chosen", "c:*", ab, []int{3, 1}, false},
		{"wanted by themselves only", "a:*", ring, []int{0, 1, 2}, false},
		{"wanted by itself only", "a:*", ring, []int{0, 3}, false},
		{"wanted by one that is not wanted", "d:*", chain, []int{0, 1}, false},
	} {
		if got := solve.Good(wants(c.needs), c.l, c.chosen); got != c.want {
			t.Errorf("%s: Good = %v, want %v", c.about, got, c.want)
		}
	}
}

// Q1: as many releases as there may be, each wanted by the one ahead of it, or
// by the one behind it.
func TestGoodMost(t *testing.T) {
	for _, start := range []int{0, 49} {
		l := numbered(50)
		var chosen []int
		for i := range l {
			next := i + 1
			if start == 49 {
				next = i - 1
			}
			if 0 <= next && next < 50 {
				l[i].Needs = wants(l[next].Name + ":1")
			}
			chosen = append(chosen, i)
		}
		needs := wants(l[start].Name + ":1")
		if !solve.Good(needs, l, chosen) {
			t.Errorf("from %d on: Good = false", start)
		}
		if solve.Good(needs, l, chosen[1:]) || solve.Good(needs, l, chosen[:49]) || solve.Good(needs, l, append(chosen, 7)) {
			t.Errorf("from %d on: Good = true with one less, or one twice", start)
		}
	}
}

// Q1: lists of any length.
func TestGoodLong(t *testing.T) {
	l := stock("a 1.0.0", "b 1.0.0")
	if solve.Good(wants("a:*"), l, make([]int, 1000000)) {
		t.Errorf("Good = true of one number again and again")
	}
	needs := wants("a:*")
	for i := range 100000 {
		needs = append(needs, api.Need{Name: "p" + strconv.Itoa(i)})
	}
	if solve.Good(needs, l, []int{0}) {
		t.Errorf("Good = true with needs that are not there")
	}
	if solve.Good(needs, numbered(100000), nil) {
		t.Errorf("Good = true of a shelf that is too long")
	}
}
