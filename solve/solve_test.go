package solve_test

import (
	"math"
	"reflect"
	"slices"
	"strconv"
	"strings"
	"testing"

	"pantry/api"
	"pantry/solve"
)

// lock tells entries; each is written as name@version, with blanks between.
func lock(text string) []api.Entry {
	var l []api.Entry
	for _, word := range strings.Fields(text) {
		name, version, _ := strings.Cut(word, "@")
		l = append(l, api.Entry{Name: name, Version: version})
	}
	return l
}

// Q2: solutions, and how many tries they take: with one less there is no fuel.
func TestSolve(t *testing.T) {
	example := stock("a 2.0.0 b:^2", "a 1.0.0", "b 1.0.0")
	three := stock("a 1.2.0 b:^1 c:*", "b 1.0.0 c:^2", "b 1.1.0 c:^3", "c 2.0.0", "c 3.0.0")
	abc := stock("a 1.0.0", "a 3.0.0", "a 2.0.0", "a 2.5.0-x")
	for _, c := range []struct {
		about string
		needs string
		l     []api.Release
		old   string
		want  []int
		tries int
	}{
		{"nothing", "", nil, "", nil, 0},
		{"nothing of something", "", abc, "a@1.0.0", nil, 0},
		{"the document's example", "a:*", example, "", []int{1}, 3},
		{"the newest first", "a:*", abc, "", []int{1}, 1},
		{"not what is too new", "a:<3.0.0-0", abc, "", []int{3}, 2},
		{"the oldest one", "a:1.0.0", abc, "", []int{0}, 4},

		{"what the lock has", "a:*", abc, "a@2.0.0", []int{2}, 1},
		{"what the lock has, but for Build", "a:*", abc, "a@2.0.0+other", []int{2}, 1},
		{"what the lock has, the oldest one", "a:*", abc, "a@1.0.0", []int{0}, 1},
		{"what the lock has is not wanted, nor tried again", "a:>=3", abc, "a@2.0.0", []int{1}, 2},
		{"what the lock has is not wanted, then the others in their order", "a:1.0.0", abc, "a@2.0.0", []int{0}, 4},
		{"what the lock has is not there", "a:*", abc, "a@4.0.0", []int{1}, 1},
		{"what the lock has is no version", "a:*", abc, "a@2.0", []int{1}, 1},
		{"the first entry of that name counts", "a:*", abc, "b@1.0.0 a@2.0.0 a@1.0.0", []int{2}, 1},
		{"the first entry counts, also if it is not there", "a:*", abc, "a@4.0.0 a@1.0.0", []int{1}, 1},
		{"the first entry counts, also if it is no version", "a:*", abc, "a@ a@1.0.0", []int{1}, 1},
		{"the lock's entry of another name", "a:*", abc, "b@1.0.0", []int{1}, 1},
		{"what the lock has of a need's need", "a:*", three, "b@1.0.0 c@3.0.0", []int{0, 1, 3}, 4},
		{"what the lock has leads astray", "a:*", stock("a 1.0.0 b:*", "b 2.0.0", "b 1.0.0 z:*"), "b@1.0.0", []int{0, 1}, 3},

		{"by the names, not by the row", "c:* a:* b:*", stock("b 1.0.0", "c 1.0.0", "a 1.0.0"), "", []int{2, 0, 1}, 3},
		{"by the names, byte by byte", "ab:* a_:* a0:* a-:* a:* b:*", stock("b 1.0.0", "a 1.0.0", "ab 1.0.0", "a- 1.0.0", "a_ 1.0.0", "a0 1.0.0"), "", []int{1, 3, 5, 4, 2, 0}, 6},
		{"needs are put at the row's end", "a:* b:*", stock("a 1.0.0 c:*", "b 1.0.0 c:<2", "c 1.0.0", "c 2.0.0"), "", []int{0, 1, 2}, 4},
		{"needs in their order", "a:*", stock("a 1.0.0 c:* b:*", "b 2.0.0 c:1", "b 1.0.0", "c 2.0.0", "c 1.0.0"), "", []int{0, 2, 3}, 4},
		{"needs in their order, the other way round", "a:*", stock("a 1.0.0 b:* c:*", "b 2.0.0 c:1", "b 1.0.0", "c 2.0.0", "c 1.0.0"), "", []int{0, 1, 4}, 4},
		{"a name that is in the row is not put there again", "a:* b:*", stock("a 1.0.0 b:* a:*", "b 1.0.0 a:*"), "", []int{0, 1}, 2},
		{"a ring", "a:*", stock("a 1.0.0 b:*", "b 1.0.0 c:*", "c 1.0.0 a:*"), "", []int{0, 1, 2}, 3},

		{"a need of the project", "a:<2", stock("a 1.0.0", "a 2.0.0"), "", []int{0}, 2},
		{"a need of the project, of a need's need", "a:* b:1", stock("a 1.0.0 b:*", "b 2.0.0", "b 1.0.0"), "", []int{0, 2}, 3},
		{"a need of a chosen release", "a:* b:*", stock("a 1.0.0 b:1", "b 2.0.0", "b 1.0.0"), "", []int{0, 2}, 3},
		{"a need of its own", "a:*", stock("a 2.0.0 a:1", "a 1.0.0 a:1"), "", []int{1}, 2},
		{"a chosen release", "b:* a:*", stock("b 2.0.0", "b 1.0.0", "a 2.0.0 b:1", "a 1.0.0 b:2"), "", []int{3, 0}, 3},
		{"all needs of it", "a:* b:*", stock("a 1.0.0", "b 2.0.0 c:* a:2", "b 1.0.0"), "", []int{0, 2}, 3},

		{"what was chosen is taken back", "a:* b:*", stock("a 2.0.0", "a 1.0.0", "b 1.0.0 a:1"), "", []int{1, 2}, 4},
		{"what was barred is taken back", "a:* b:*", stock("a 2.0.0 b:3 c:*", "a 1.0.0", "b 2.0.0"), "", []int{1, 2}, 4},
		{"what was put in the row is taken back", "a:* b:*", stock("a 2.0.0 c:*", "a 1.0.0", "b 1.0.0 a:1", "c 1.0.0 b:*"), "", []int{1, 2}, 4},
		{"what was put in the row is put there again", "a:* b:*", stock("a 2.0.0 c:*", "a 1.0.0 d:* c:*", "b 1.0.0 a:1", "c 1.0.0", "d 1.0.0"), "", []int{1, 2, 3, 4}, 6},
		{"three", "a:*", three, "", []int{0, 2, 4}, 3},
		{"three, with another need", "a:* c:^2", three, "", []int{0, 1, 3}, 5},
	} {
		for _, fuel := range []int{c.tries, c.tries + 1, 1000, math.MaxInt} {
			got, errno := solve.Solve(wants(c.needs), c.l, lock(c.old), fuel)
			if !slices.Equal(got, c.want) || errno != api.OK {
				t.Errorf("%s, fuel %d: Solve = %v, %d, want %v, 0", c.about, fuel, got, errno, c.want)
			}
		}
		if c.tries > 0 {
			testError(t, c.about, c.needs, c.l, c.old, api.ErrFuel, c.tries-1, 0, -1, math.MinInt)
		}
		if !solve.Good(wants(c.needs), c.l, c.want) {
			t.Errorf("%s: Good = false", c.about)
		}
	}
}

// testError looks that with each of the fuels that error is the answer.
func testError(t *testing.T, about, needs string, l []api.Release, old string, want api.Errno, fuels ...int) {
	t.Helper()
	for _, fuel := range fuels {
		if got, errno := solve.Solve(wants(needs), l, lock(old), fuel); got != nil || errno != want {
			t.Errorf("%s, fuel %d: Solve = %v, %d, want nothing, %d", about, fuel, got, errno, want)
		}
	}
}

// Q2: there is no solution, and how many tries it takes to know.
func TestSolveUnsat(t *testing.T) {
	for _, c := range []struct {
		about, needs string
		l            []api.Release
		tries        int
	}{
		{"a need of nothing", "a:*", nil, 0},
		{"a need of another name", "z:*", stock("a 1.0.0"), 0},
		{"what is not there behind what is", "a:* z:*", stock("a 1.0.0", "a 2.0.0"), 2},
		{"nothing that is admitted", "a:>1", stock("a 1.0.0", "a 0.1.0"), 2},
		{"nothing that admits itself", "a:*", stock("a 1.0.0 a:>1"), 1},
		{"a need of a need that is not there", "a:*", stock("a 1.0.0 b:*"), 1},
		{"two that bar one another", "a:* b:*", stock("a 1.0.0 b:2", "b 1.0.0 a:2"), 2},
		{"the first one bars", "a:* b:*", stock("a 1.0.0 b:2", "b 1.0.0"), 2},
		{"the second one bars", "a:* b:*", stock("a 1.0.0", "b 1.0.0 a:2"), 2},
		{"all ways", "a:* b:* c:*", stock("a 1.0.0", "a 2.0.0", "b 1.0.0", "b 2.0.0", "c 1.0.0 a:3", "c 2.0.0 b:3"), 2 + 4 + 8},
	} {
		testError(t, c.about, c.needs, c.l, "", api.ErrUnsat, c.tries, c.tries+1, math.MaxInt)
		if c.tries > 0 {
			testError(t, c.about, c.needs, c.l, "", api.ErrFuel, c.tries-1, 0, -1, math.MinInt)
		} else {
			testError(t, c.about, c.needs, c.l, "", api.ErrUnsat, 0, -1, math.MinInt)
		}
	}
}

// Q2: wrong inputs, and which of several faults is told. Fuel does not count.
func TestSolveFaults(t *testing.T) {
	good, bad := stock("a 1.0.0"), stock("a 1.0.0", "a 1.0.0+x")
	for _, c := range []struct {
		about, needs string
		l            []api.Release
		want         api.Errno
	}{
		{"a release twice", "a:*", bad, api.ErrKind},
		{"no version", "", stock("a 1.0"), api.ErrKind},
		{"no name", "a:*", stock("a 1.0.0", "A 1.0.0"), api.ErrKind},
		{"51 releases", "p0:*", numbered(51), api.ErrKind},
		{"a release twice, no need, needs twice", "A:^ A:^", bad, api.ErrKind},
		{"a need that is no name", "A:*", good, api.ErrText},
		{"a need without a name", ":*", good, api.ErrText},
		{"a need of no range", "a:^", good, api.ErrText},
		{"a need of nothing, and no name", "z:* A:*", good, api.ErrText},
		{"needs twice, then no name", "a:* a:* A:*", good, api.ErrText},
		{"needs twice, then no range", "a:* a:^", good, api.ErrText},
		{"needs twice", "a:* a:*", good, api.ErrTwice},
		{"needs twice what is not there", "z:1 a:* z:2", good, api.ErrTwice},
	} {
		testError(t, c.about, c.needs, c.l, "a@1.0.0", c.want, math.MinInt, -1, 0, 1, 1000)
	}
}

// Q2: a row of as many chosen releases as there may be.
func TestSolveMost(t *testing.T) {
	l := numbered(50)
	var want []int
	for i := range l {
		if i > 0 {
			l[i].Needs = wants(l[i-1].Name + ":1")
		}
		want = append(want, i)
	}
	slices.SortFunc(want, func(a, b int) int { return strings.Compare(strconv.Itoa(a), strconv.Itoa(b)) })
	got, errno := solve.Solve(wants("p49:*"), l, nil, 50)
	if !slices.Equal(got, want) || errno != api.OK {
		t.Errorf("Solve = %v, %d, want %v, 0", got, errno, want)
	}
	testError(t, "50 releases", "p49:*", l, "", api.ErrFuel, 49)
}

// Q2: lists of any length; the search ends when its fuel does.
func TestSolveLong(t *testing.T) {
	var l []api.Release
	for i := range 25 {
		name := "p" + strconv.Itoa(i)
		l = append(l, stock(name+" 1.0.0", name+" 2.0.0")...)
	}
	var needs []api.Need
	for i := range 100000 {
		needs = append(needs, api.Need{Name: "p" + strconv.Itoa(i)})
	}
	old := make([]api.Entry, 100000)
	for i := range old {
		old[i] = api.Entry{Name: "p" + strconv.Itoa(i%30), Version: "1.0.0"}
	}
	if got, errno := solve.Solve(needs, l, old, 1000000); got != nil || errno != api.ErrFuel {
		t.Errorf("Solve = %v, %d, want ErrFuel", got, errno)
	}
	if got, errno := solve.Solve(needs[:25], l, old, 25); len(got) != 25 || slices.Contains(got, 1) || errno != api.OK {
		t.Errorf("Solve = %v, %d, want all of 1.0.0", got, errno)
	}
	if got, errno := solve.Solve(needs[25:], l, old, 0); got != nil || errno != api.ErrUnsat {
		t.Errorf("Solve = %v, %d, want ErrUnsat", got, errno)
	}
	if got, errno := solve.Solve(needs, numbered(100000), old, 0); got != nil || errno != api.ErrKind {
		t.Errorf("Solve = %v, %d, want ErrKind", got, errno)
	}
}

// What is handed in is not changed, and an answer is new memory.
func TestKeeps(t *testing.T) {
	l, needs, old := stock("b 1.0.0 c:* a:1", "c 1.0.0", "a 1.0.0", "b 2.0.0 z:*"), wants("b:* a:*"), lock("c@1.0.0 a@1.0.0")
	first, errno := solve.Solve(needs, l, old, 100)
	if errno != api.OK || !solve.Good(needs, l, first) {
		t.Fatalf("Solve = %v, %d", first, errno)
	}
	kept := slices.Clone(first)
	slices.Reverse(first)
	if second, _ := solve.Solve(needs, l, old, 100); !slices.Equal(second, kept) {
		t.Errorf("Solve = %v, want %v", second, kept)
	}
	if !reflect.DeepEqual(l, stock("b 1.0.0 c:* a:1", "c 1.0.0", "a 1.0.0", "b 2.0.0 z:*")) || !reflect.DeepEqual(needs, wants("b:* a:*")) || !reflect.DeepEqual(old, lock("c@1.0.0 a@1.0.0")) {
		t.Errorf("changed: %v, %v, %v", l, needs, old)
	}
}
