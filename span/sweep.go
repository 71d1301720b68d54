package span

import (
	"slices"
	"strings"

	"pantry/api"
	"pantry/ver"
)

// choice tells whether versions are wanted that so many of all lists have.
type choice func(having, all int) bool

func some(having, all int) bool { return having > 0 }

func every(having, all int) bool { return having == all }

// edge is where a span of a list begins or ends.
type edge struct {
	at   api.Version
	list int
	step int // how many more spans of the list have the versions from here on
}

// sweep goes once over the edges of all lists, and answers the normal list of
// the versions that are wanted.
func sweep(wanted choice, lists ...[]api.Span) ([]api.Span, api.Errno) {
	for _, l := range lists {
		if !Sound(l) {
			return nil, api.ErrText
		}
	}
	var swept []api.Span
	having, within := 0, false
	begun := make([]int, len(lists))
	edges := edgesOf(lists...)
	for i, e := range edges {
		having += begin(&begun[e.list], e.step)
		if i+1 < len(edges) && ver.Compare(e.at, edges[i+1].at) == 0 {
			// One span may begin where another one ends: that is no edge of what is wanted.
			continue
		}
		if wanted(having, len(lists)) == within {
			continue
		}
		within = !within
		if within {
			swept = append(swept, api.Span{From: bound(e.at), Open: true})
		} else {
			last := &swept[len(swept)-1]
			last.To, last.Open = bound(e.at), false
		}
	}
	return swept, api.OK
}

// edgesOf tells the edges of all spans that have anything, in their order.
func edgesOf(lists ...[]api.Span) []edge {
	var edges []edge
	for i, l := range lists {
		for _, s := range l {
			switch {
			case s.Open:
				edges = append(edges, edge{s.From, i, 1})
			case ver.Compare(s.From, s.To) < 0:
				edges = append(edges, edge{s.From, i, 1}, edge{s.To, i, -1})
			}
		}
	}
	slices.SortFunc(edges, func(a, b edge) int { return ver.Compare(a.at, b.at) })
	return edges
}

// begin counts a step of a list's begun spans, and tells by how much the
// number of lists that have any changes.
func begin(begun *int, step int) int {
	before := min(*begun, 1)
	*begun += step
	return min(*begun, 1) - before
}

// bound tells a version as it stands in a normal list, as new memory.
func bound(v api.Version) api.Version {
	v.Pre, v.Build = strings.Clone(v.Pre), ""
	return v
}
