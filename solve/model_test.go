package solve_test

import (
	"math/rand"
	"regexp"
	"slices"
	"strings"
	"testing"

	"pantry/api"
	"pantry/ranges"
	"pantry/shelf"
	"pantry/solve"
	"pantry/ver"
)

// The tests here hold both calls against models that take the chapter's words
// one by one, and Solve against all lists of releases that there are.

var nameForm = regexp.MustCompile(`^[a-z][a-z0-9_-]{0,29}$`)

// admits tells whether a need is of a release's name and admits its version.
func admits(n api.Need, r api.Release) bool {
	v, _, _ := ver.Parse(r.Version)
	ok, _, _ := ranges.Admits(n.Range, v)
	return n.Name == r.Name && ok
}

func modelFault(needs []api.Need, l []api.Release) api.Errno {
	if errno, _ := shelf.Check(l); errno != api.OK {
		return api.ErrKind
	}
	for _, n := range needs {
		if _, errno, _ := ranges.Parse(n.Range); errno != api.OK || !nameForm.MatchString(n.Name) {
			return api.ErrText
		}
	}
	for i, n := range needs {
		for _, other := range needs[:i] {
			if other.Name == n.Name {
				return api.ErrTwice
			}
		}
	}
	return api.OK
}

func modelGood(needs []api.Need, l []api.Release, chosen []int) bool {
	if modelFault(needs, l) != api.OK {
		return false
	}
	var releases []api.Release
	for _, number := range chosen {
		if number < 0 || number > len(l)-1 {
			return false
		}
		releases = append(releases, l[number])
	}
	for i, r := range releases {
		for _, other := range releases[:i] {
			if other.Name == r.Name {
				return false
			}
		}
	}
	lists := [][]api.Need{needs}
	for _, r := range releases {
		lists = append(lists, r.Needs)
	}
	for _, n := range slices.Concat(lists...) {
		if !slices.ContainsFunc(releases, func(r api.Release) bool { return admits(n, r) }) {
			return false
		}
	}
	wanted := map[string]bool{}
	modelWant(needs, releases, wanted)
	return len(wanted) == len(releases)
}

// modelWant goes from needs to the releases that they name, and on from these.
func modelWant(needs []api.Need, releases []api.Release, wanted map[string]bool) {
	for _, n := range needs {
		for _, r := range releases {
			if r.Name == n.Name && !wanted[r.Name] {
				wanted[r.Name] = true
				modelWant(r.Needs, releases, wanted)
			}
		}
	}
}

// model is a search that hands on copies instead of taking anything back, and
// counts its tries.
type model struct {
	needs []api.Need
	l     []api.Release
	old   []api.Entry
	tries int
}

func (m *model) candidates(name string) []int {
	var first []int
	for _, e := range m.old {
		if e.Name == name {
			if number := shelf.Find(m.l, name, e.Version); number >= 0 {
				first = []int{number}
			}
			break
		}
	}
	for _, number := range shelf.Of(m.l, name) {
		if !slices.Contains(first, number) {
			first = append(first, number)
		}
	}
	return first
}

func (m *model) fits(number int, chosen []int) bool {
	lists := [][]api.Need{m.needs, m.l[number].Needs}
	for _, other := range chosen {
		lists = append(lists, m.l[other].Needs)
	}
	for _, n := range slices.Concat(lists...) {
		if n.Name == m.l[number].Name && !admits(n, m.l[number]) {
			return false
		}
	}
	for _, n := range m.l[number].Needs {
		for _, other := range chosen {
			if n.Name == m.l[other].Name && !admits(n, m.l[other]) {
				return false
			}
		}
	}
	return true
}

func (m *model) search(row []string, chosen []int) ([]int, bool) {
	if len(row) == len(chosen) {
		return chosen, true
	}
	for _, number := range m.candidates(row[len(chosen)]) {
		m.tries++
		if !m.fits(number, chosen) {
			continue
		}
		longer := slices.Clone(row)
		for _, n := range m.l[number].Needs {
			if !slices.Contains(longer, n.Name) {
				longer = append(longer, n.Name)
			}
		}
		if found, ok := m.search(longer, append(slices.Clone(chosen), number)); ok {
			return found, true
		}
	}
	return nil, false
}

// modelSolve tells the answer that enough fuel gives, and how much is enough.
func modelSolve(needs []api.Need, l []api.Release, old []api.Entry) ([]int, api.Errno, int) {
	if errno := modelFault(needs, l); errno != api.OK {
		return nil, errno, 0
	}
	m := &model{needs: needs, l: l, old: old}
	var row []string
	for _, n := range needs {
		row = append(row, n.Name)
	}
	found, ok := m.search(row, nil)
	if !ok {
		return nil, api.ErrUnsat, m.tries
	}
	slices.SortFunc(found, func(a, b int) int { return strings.Compare(l[a].Name, l[b].Name) })
	return found, api.OK, m.tries
}

// anySolution tells whether some of the releases are a solution.
func anySolution(needs []api.Need, l []api.Release) bool {
	for bits := range 1 << len(l) {
		var chosen []int
		for number := range l {
			if bits>>number&1 == 1 {
				chosen = append(chosen, number)
			}
		}
		if modelGood(needs, l, chosen) {
			return true
		}
	}
	return false
}

func checkSolve(t *testing.T, needs []api.Need, l []api.Release, old []api.Entry) api.Errno {
	t.Helper()
	want, wantErrno, tries := modelSolve(needs, l, old)
	for _, fuel := range []int{tries, tries + 1, tries + 1000} {
		got, errno := solve.Solve(needs, l, old, fuel)
		if !slices.Equal(got, want) || errno != wantErrno {
			t.Fatalf("Solve(%v, %v, %v, %d) = %v, %d, want %v, %d", needs, l, old, fuel, got, errno, want, wantErrno)
		}
	}
	if tries > 0 {
		for _, fuel := range []int{tries - 1, tries / 2, 0} {
			if got, errno := solve.Solve(needs, l, old, fuel); got != nil || errno != api.ErrFuel {
				t.Fatalf("Solve(%v, %v, %v, %d) = %v, %d, want ErrFuel", needs, l, old, fuel, got, errno)
			}
		}
	}
	if got := solve.Good(needs, l, want); got != (wantErrno == api.OK) {
		t.Fatalf("Good(%v, %v, %v) = %v", needs, l, want, got)
	}
	return wantErrno
}

func checkGood(t *testing.T, needs []api.Need, l []api.Release, chosen []int) bool {
	t.Helper()
	got := solve.Good(needs, l, chosen)
	if want := modelGood(needs, l, chosen); got != want {
		t.Fatalf("Good(%v, %v, %v) = %v, want %v", needs, l, chosen, got, want)
	}
	return got
}

// eachShelf gives all shelves of up to so many of these releases that have no
// release twice.
func eachShelf(some []api.Release, most int, give func(l []api.Release)) {
	var longer func(l []api.Release)
	longer = func(l []api.Release) {
		if errno, _ := shelf.Check(l); errno != api.OK {
			return
		}
		give(l)
		if len(l) < most {
			for _, r := range some {
				longer(append(slices.Clone(l), r))
			}
		}
	}
	longer(nil)
}

// Q1, Q2: all shelves of up to three of some releases.
func TestShort(t *testing.T) {
	var some []api.Release
	for _, release := range []string{"a 1.0.0 ", "a 2.0.0 ", "b 1.0.0 ", "b 2.0.0 "} {
		for _, needs := range []string{"", "a:1", "b:1", "b:2", "b:* a:*", "a:* c:*"} {
			some = append(some, stock(release+needs)...)
		}
	}
	seen := map[api.Errno]int{}
	eachShelf(some, 3, func(l []api.Release) {
		for _, needs := range []string{"a:*", "b:1 a:*"} {
			for _, old := range []string{"", "a@1.0.0 b@1.0.0"} {
				seen[checkSolve(t, wants(needs), l, lock(old))]++
			}
		}
	})
	for _, errno := range []api.Errno{api.OK, api.ErrUnsat} {
		if seen[errno] == 0 {
			t.Errorf("no search of error %d", errno)
		}
	}
}

// some tells up to so many of these, of which none need be another one.
func some[T any](r *rand.Rand, all []T, most int) []T {
	var l []T
	for range r.Intn(most + 1) {
		l = append(l, all[r.Intn(len(all))])
	}
	return l
}

// someNeeds tells needs of names that are mostly not alike.
func someNeeds(r *rand.Rand, most int) []api.Need {
	var l []api.Need
	for _, name := range some(r, []string{"a", "b", "c", "d", "e"}, most) {
		alike := slices.ContainsFunc(l, func(n api.Need) bool { return n.Name == name })
		if alike && r.Intn(50) > 0 {
			continue
		}
		admitted := []string{"*", "*", "1", "2", ">=2", "<2", "1.0.0", "1 || 3", ">1.0.0", "^1.1", "<0.0.0-0"}
		l = append(l, api.Need{Name: name, Range: admitted[r.Intn(len(admitted))]})
	}
	if r.Intn(200) == 0 {
		l = append(l, wants([]string{"A:*", "f:^", "a:*"}[r.Intn(3)])...)
	}
	return l
}

// someStock tells releases that mostly stand apart.
func someStock(r *rand.Rand, most int) []api.Release {
	var l []api.Release
	for range r.Intn(most + 1) {
		versions := []string{"1.0.0", "1.1.0-x", "1.1.0", "2.0.0", "2.0.0+x", "3.0.0"}
		one := api.Release{Name: string(rune('a' + r.Intn(5))), Version: versions[r.Intn(len(versions))], Needs: someNeeds(r, 3)}
		if r.Intn(100) > 0 && shelf.Find(l, one.Name, one.Version) >= 0 {
			continue
		}
		l = append(l, one)
	}
	return l
}

func someLock(r *rand.Rand) []api.Entry {
	return lock(strings.Join(some(r, []string{"a@1.0.0", "a@2.0.0+y", "b@1.1.0", "b@1", "c@1.0.0", "c@4.0.0", "d@3.0.0", "e@2.0.0"}, 5), " "))
}

// Q2: searches at will; where there is said to be no solution, there is none.
func TestSolveModel(t *testing.T) {
	seen := map[api.Errno]int{}
	r := rand.New(rand.NewSource(1))
	for range 5000 {
		needs, l := someNeeds(r, 4), someStock(r, 20)
		seen[checkSolve(t, needs, l, someLock(r))]++
	}
	for range 1000 {
		needs, l := someNeeds(r, 4), someStock(r, 8)
		errno := checkSolve(t, needs, l, someLock(r))
		if found := anySolution(needs, l); found != (errno == api.OK) {
			t.Fatalf("%v, %v: Solve = %d, but any solution: %v", needs, l, errno, found)
		}
	}
	for _, errno := range []api.Errno{api.OK, api.ErrText, api.ErrTwice, api.ErrKind, api.ErrUnsat} {
		if seen[errno] == 0 {
			t.Errorf("no search of error %d", errno)
		}
	}
}

// Q1: numbers at will, and solutions with a number more, less or changed.
func TestGoodModel(t *testing.T) {
	seen := map[bool]int{}
	r := rand.New(rand.NewSource(2))
	for range 20000 {
		needs, l := someNeeds(r, 3), someStock(r, 8)
		var numbers []int
		for i := range len(l) + 2 {
			numbers = append(numbers, i-1)
		}
		seen[checkGood(t, needs, l, some(r, numbers, 4))]++
		chosen, errno := solve.Solve(needs, l, nil, 1000)
		if errno != api.OK {
			continue
		}
		seen[checkGood(t, needs, l, chosen)]++
		seen[checkGood(t, needs, l, append(slices.Clone(chosen), numbers[r.Intn(len(numbers))]))]++
		if len(chosen) > 0 {
			at := r.Intn(len(chosen))
			seen[checkGood(t, needs, l, slices.Delete(slices.Clone(chosen), at, at+1))]++
			chosen[at] = numbers[r.Intn(len(numbers))]
			seen[checkGood(t, needs, l, chosen)]++
		}
	}
	if seen[true] == 0 || seen[false] == 0 {
		t.Errorf("solutions and others: %v", seen)
	}
}
