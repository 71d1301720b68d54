package solve

import (
	"cmp"
	"slices"

	"pantry/api"
	"pantry/shelf"
)

// search is where the search for a solution stands.
type search struct {
	pulls      []pull           // of each release
	names      [][]string       // of each release: those of its needs
	candidates map[string][]int // by the names of releases
	fuel       int

	row    []string
	inRow  map[string]struct{}
	chosen []int // for the first names of the row
	all    set   // the chosen ones
	barred set   // those that do not meet a need of the project or of a chosen one
}

func newSearch(needs []api.Need, l []api.Release, old []api.Entry, fuel int) *search {
	p := pullsOf(needs, l)
	s := &search{
		pulls:      p.releases,
		names:      make([][]string, len(l)),
		candidates: map[string][]int{},
		fuel:       max(fuel, 0),
		inRow:      map[string]struct{}{},
		barred:     p.project.bars,
	}
	for number, r := range l {
		s.names[number] = namesOf(r.Needs)
		if _, ok := s.candidates[r.Name]; !ok {
			s.candidates[r.Name] = candidatesOf(l, old, r.Name)
		}
	}
	s.lineUp(namesOf(needs))
	return s
}

func namesOf(needs []api.Need) []string {
	names := make([]string, len(needs))
	for i, n := range needs {
		names[i] = n.Name
	}
	return names
}

// candidatesOf tells the releases of a name in the order of their tries: the
// one that the old lock has, then the newest first.
func candidatesOf(l []api.Release, old []api.Entry, name string) []int {
	numbers := shelf.Of(l, name)
	entry := slices.IndexFunc(old, func(e api.Entry) bool { return e.Name == name })
	if entry < 0 {
		return numbers
	}
	at := slices.Index(numbers, shelf.Find(l, name, old[entry].Version))
	if at < 0 {
		return numbers
	}
	return slices.Concat(numbers[at:at+1], numbers[:at], numbers[at+1:])
}

// find goes on from here, and tells whether there is a solution: it is what is
// chosen then. Each step deeper has chosen one more release, so it does not go
// deeper than there are releases.
func (s *search) find() bool {
	if len(s.chosen) == len(s.row) {
		return true
	}
	for _, number := range s.candidates[s.row[len(s.chosen)]] {
		s.burn()
		if !s.fits(number) {
			continue
		}
		takeBack := s.choose(number)
		if s.find() {
			return true
		}
		takeBack()
	}
	return false
}

// burn takes one from fuel. The panic leaves all of the search at once: Solve
// catches it.
func (s *search) burn() {
	if s.fuel == 0 {
		panic(api.ErrFuel)
	}
	s.fuel--
}

func (s *search) fits(number int) bool {
	bars := s.pulls[number].bars
	return !(s.barred | bars).has(number) && bars&s.all == 0
}

// choose chooses a release for the next name, and answers what takes that back.
func (s *search) choose(number int) (takeBack func()) {
	all, barred := s.all, s.barred
	s.chosen = append(s.chosen, number)
	s.all |= only(number)
	s.barred |= s.pulls[number].bars
	stepBack := s.lineUp(s.names[number])
	return func() {
		stepBack()
		s.chosen = s.chosen[:len(s.chosen)-1]
		s.all, s.barred = all, barred
	}
}

// lineUp puts the names that are not in the row at its end, and answers what
// takes them away again.
func (s *search) lineUp(names []string) (takeBack func()) {
	length := len(s.row)
	for _, name := range names {
		if _, ok := s.inRow[name]; !ok {
			s.inRow[name] = struct{}{}
			s.row = append(s.row, name)
		}
	}
	return func() {
		for _, name := range s.row[length:] {
			delete(s.inRow, name)
		}
		s.row = s.row[:length]
	}
}

// solution tells the chosen releases by their names, no two of which are alike.
func (s *search) solution(l []api.Release) []int {
	return slices.SortedFunc(slices.Values(s.chosen), func(a, b int) int {
		return cmp.Compare(l[a].Name, l[b].Name)
	})
}
