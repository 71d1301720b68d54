package span_test

import (
	"slices"
	"testing"

	"pantry/api"
	"pantry/span"
	"pantry/ver"
)

// some versions, in their order, with nothing between the second and the
// third, and nothing ahead of the first or behind the last.
var places = []api.Version{version("0.0.0-0"), version("1.0.0"), version("1.0.1-0"), version("2.0.0-a.b"), version("MAX.MAX.MAX")}

// allSpans tells all spans between the places, some of them with Build, and of
// those that are open some with a To that does not count.
func allSpans() []api.Span {
	var all []api.Span
	for i, from := range places {
		for j, to := range places {
			if (i+j)%2 == 0 {
				from.Build = "x.01"
			} else {
				to.Build = "y"
			}
			all = append(all, api.Span{From: from, To: to})
		}
		all = append(all, api.Span{From: from, To: api.Version{Minor: -i}, Open: true})
	}
	return all
}

// allLists tells all lists of at most two of all spans.
func allLists() [][]api.Span {
	lists := [][]api.Span{nil}
	for _, s := range allSpans() {
		lists = append(lists, []api.Span{s})
		for _, other := range allSpans() {
			lists = append(lists, []api.Span{s, other})
		}
	}
	return lists
}

// holding tells at which of the places a list has versions. As nothing changes
// but at a place, it tells all of what the list has.
func holding(l []api.Span) [5]bool {
	var holds [5]bool
	for i, v := range places {
		holds[i] = span.Holds(l, v)
	}
	return holds
}

// isNormal tells whether a list is as X2 asks it.
func isNormal(l []api.Span) bool {
	for i, s := range l {
		good := ver.Sound(s.From) && s.From.Build == ""
		if s.Open {
			good = good && s.To == (api.Version{})
		} else {
			good = good && ver.Sound(s.To) && s.To.Build == "" && ver.Compare(s.From, s.To) < 0
		}
		if i > 0 {
			good = good && !l[i-1].Open && ver.Compare(l[i-1].To, s.From) < 0
		}
		if !good {
			return false
		}
	}
	return true
}

// X2, X3 for all lists of up to two spans: the answer is normal, has what it is
// to have, and the arguments stay as they are.
func TestShortLists(t *testing.T) {
	lists := allLists()
	for i, a := range lists {
		kept := slices.Clone(a)
		n, e := span.Normal(a)
		if e != api.OK || !isNormal(n) || holding(n) != holding(a) {
			t.Fatalf("Normal(%+v) = %+v, %d", a, n, e)
		}
		again, e := span.Normal(n)
		if e != api.OK || !slices.Equal(n, again) {
			t.Fatalf("Normal(%+v) = %+v, %d", n, again, e)
		}
		for j := i % 7; j < len(lists); j += 7 {
			b := lists[j]
			var both, one [5]bool
			inA, inB := holding(a), holding(b)
			for i := range places {
				both[i] = inA[i] && inB[i]
				one[i] = inA[i] || inB[i]
			}
			if m, e := span.Meet(a, b); e != api.OK || !isNormal(m) || holding(m) != both {
				t.Fatalf("Meet(%+v, %+v) = %+v, %d", a, b, m, e)
			}
			if j, e := span.Join(a, b); e != api.OK || !isNormal(j) || holding(j) != one {
				t.Fatalf("Join(%+v, %+v) = %+v, %d", a, b, j, e)
			}
		}
		if !slices.Equal(a, kept) {
			t.Fatalf("%+v was changed to %+v", kept, a)
		}
	}
}

// X2: many spans in one list.
func TestManySpans(t *testing.T) {
	const count = 20000
	var apart, touching []api.Span
	for i := range count {
		number := (i * 7919) % count
		apart = append(apart, api.Span{From: api.Version{Minor: number}, To: api.Version{Minor: number, Patch: 5}})
		touching = append(touching, api.Span{From: api.Version{Minor: number}, To: api.Version{Minor: number + 1}})
	}
	l, e := span.Normal(apart)
	if e != api.OK || len(l) != count || !isNormal(l) {
		t.Errorf("Normal of %d spans apart has %d, %d", count, len(l), e)
	}
	l, e = span.Join(touching, apart)
	if want := []api.Span{{To: api.Version{Minor: count}}}; e != api.OK || !slices.Equal(l, want) {
		t.Errorf("Join of %d spans that touch has %d, %d", count, len(l), e)
	}
	l, e = span.Meet(touching, apart)
	if e != api.OK || len(l) != count || !isNormal(l) {
		t.Errorf("Meet of %d spans has %d, %d", count, len(l), e)
	}
}
