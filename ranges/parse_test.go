package ranges_test

import (
	"slices"
	"strings"
	"testing"

	"pantry/api"
	"pantry/ranges"
	"pantry/ver"
)

// R1: what ranges admit, told as R3 tells it.
func TestParse(t *testing.T) {
	for _, c := range []struct{ text, want string }{
		{"", "*"},
		{"   ", "*"},
		{"*", "*"},
		{"x", "*"},
		{"X", "*"},
		{"=*", "*"},
		{">=*", "*"},
		{"<=*", "*"},
		{">*", "<0.0.0-0"},
		{"<x", "<0.0.0-0"},
		{"^*", "*"},
		{"~X", "*"},
		{"1", ">=1.0.0-0 <2.0.0-0"},
		{"1.*", ">=1.0.0-0 <2.0.0-0"},
		{"=1.X", ">=1.0.0-0 <2.0.0-0"},
		{"0", "<1.0.0-0"},
		{"0.0", "<0.1.0-0"},
		{"1.2.x", ">=1.2.0-0 <1.3.0-0"},
		{"1.0", ">=1.0.0-0 <1.1.0-0"},
		{"1.2.3", ">=1.2.3 <1.2.4-0"},
		{"0.0.0", ">=0.0.0 <0.0.1-0"},
		{"0.0.0-0", "<0.0.0-0.0"},
		{"1.2.3-a.1", ">=1.2.3-a.1 <1.2.3-a.1.0"},
		{"=1.2.3-a+b.01", ">=1.2.3-a <1.2.3-a.0"},
		{"1.2.3+001", ">=1.2.3 <1.2.4-0"},
		{">=1.2", ">=1.2.0-0"},
		{">=0", "*"},
		{">=0.0.0", ">=0.0.0"},
		{">=1.2.3-a", ">=1.2.3-a"},
		{"<=1", "<2.0.0-0"},
		{"<=1.2.3", "<1.2.4-0"},
		{"<=1.2.3-a", "<1.2.3-a.0"},
		{">1.2", ">=1.3.0-0"},
		{">1.2.3-a", ">=1.2.3-a.0"},
		{"<1.2", "<1.2.0-0"},
		{"<1.2.3", "<1.2.3"},
		{"<1.2.3-a", "<1.2.3-a"},
		{"<0", "<0.0.0-0"},
		{"<0.0.0", "<0.0.0"},
		{"~1", ">=1.0.0-0 <2.0.0-0"},
		{"~0.x", "<1.0.0-0"},
		{"~1.2", ">=1.2.0-0 <1.3.0-0"},
		{"~1.2.3", ">=1.2.3 <1.3.0-0"},
		{"~1.2.3-a", ">=1.2.3-a <1.3.0-0"},
		{"^1.2.3-a+b", ">=1.2.3-a <2.0.0-0"},
		{"^1.0", ">=1.0.0-0 <2.0.0-0"},
		{"^0.1", ">=0.1.0-0 <0.2.0-0"},
		{"^0.1.0", ">=0.1.0 <0.2.0-0"},
		{"^0.0.1", ">=0.0.1 <0.0.2-0"},
		{"^0.0.0", ">=0.0.0 <0.0.1-0"},
		{"^0.0.0-a", ">=0.0.0-a <0.0.1-0"},
		{"^0.0.x", "<0.1.0-0"},
		{"^0.x", "<1.0.0-0"},
		{"^1.x", ">=1.0.0-0 <2.0.0-0"},
		{"999999999", ">=999999999.0.0-0 <1000000000.0.0-0"},
		{">999999999.999999999", ">=999999999.1000000000.0-0"},
		{"1.2.999999999", ">=1.2.999999999 <1.2.1000000000-0"},
		{"^0.0.999999999-a", ">=0.0.999999999-a <0.0.1000000000-0"},
		{">=1.2 <3.4", ">=1.2.0-0 <3.4.0-0"},
		{"  >=1.2   <3.4   ", ">=1.2.0-0 <3.4.0-0"},
		{">=1 <4 ^2", ">=2.0.0-0 <3.0.0-0"},
		{"1 2", "<0.0.0-0"},
		{"1 1.2", ">=1.2.0-0 <1.3.0-0"},
		{"1 -  2", ">=1.0.0-0 <3.0.0-0"},
		{"1   - 2.3.4-a", ">=1.0.0-0 <2.3.4-a.0"},
		{"1.2.3-a - 2.*", ">=1.2.3-a <3.0.0-0"},
		{"1.2.3-- - 2", ">=1.2.3-- <3.0.0-0"},
		{"2 - 1", "<0.0.0-0"},
		{"1 - *", ">=1.0.0-0"},
		{"* - 1.2.3", "<1.2.4-0"},
		{"x - X", "*"},
		{"1||2", ">=1.0.0-0 <3.0.0-0"},
		{" 1  ||  3 ", ">=1.0.0-0 <2.0.0-0 || >=3.0.0-0 <4.0.0-0"},
		{"3||1", ">=1.0.0-0 <2.0.0-0 || >=3.0.0-0 <4.0.0-0"},
		{"||", "*"},
		{"1||", "*"},
		{"||1", "*"},
		{"1 || || 2", "*"},
		{"||||", "*"},
		{"1 - 2 || 4 - 5", ">=1.0.0-0 <3.0.0-0 || >=4.0.0-0 <6.0.0-0"},
		{">1 <1 || 2 3 || <*", "<0.0.0-0"},
		{"<1.2.3 || >1.2.3", "<1.2.3 || >=1.2.4-0"},
		{"<=1.2.3 || >1.2.3", "*"},
		{strings.Repeat(" ", 199) + "1", ">=1.0.0-0 <2.0.0-0"},
		{strings.Repeat("1 ", 100), ">=1.0.0-0 <2.0.0-0"},
		{strings.Repeat("||", 100), "*"},
		{"<1.2.3-" + strings.Repeat("9", 193), "<1.2.3-" + strings.Repeat("9", 193)},
	} {
		l, e, at := ranges.Parse(c.text)
		if e != api.OK || at != 0 {
			t.Errorf("Parse(%q) = %d, %d, want OK", c.text, e, at)
			continue
		}
		if got, e := ranges.Text(l); got != c.want || e != api.OK {
			t.Errorf("Text(Parse(%q)) = %q, %d, want %q", c.text, got, e, c.want)
		}
	}
}

// R1: the spans themselves.
func TestParseSpans(t *testing.T) {
	l, e, at := ranges.Parse("^1.2.3-a+b || 3.x || >=7 || 0.0.1")
	want := []api.Span{
		{From: api.Version{Patch: 1}, To: api.Version{Patch: 2, Pre: "0"}},
		{From: api.Version{Major: 1, Minor: 2, Patch: 3, Pre: "a"}, To: api.Version{Major: 2, Pre: "0"}},
		{From: api.Version{Major: 3, Pre: "0"}, To: api.Version{Major: 4, Pre: "0"}},
		{From: api.Version{Major: 7, Pre: "0"}, Open: true},
	}
	if !slices.Equal(l, want) || e != api.OK || at != 0 {
		t.Errorf("Parse = %+v, %d, %d, want %+v", l, e, at, want)
	}
}

// R1, R2: wrong texts: the fault that is met first, and where.
func TestParseFaults(t *testing.T) {
	for _, c := range []struct {
		text string
		want api.Errno
		at   int
	}{
		{strings.Repeat(" ", 201), api.ErrLong, 0},
		{"a" + strings.Repeat("1", 200), api.ErrLong, 0},
		{strings.Repeat(" ", 199) + ">", api.ErrText, 200},
		{"a", api.ErrText, 0},
		{"-", api.ErrText, 0},
		{" - 1", api.ErrText, 1},
		{"v1", api.ErrText, 0},
		{"\t1", api.ErrText, 0},
		{"1\n", api.ErrText, 1},
		{"1\x00", api.ErrText, 1},
		{"!1", api.ErrText, 0},
		{"1.", api.ErrText, 2},
		{"1.2.", api.ErrText, 4},
		{"1..2", api.ErrText, 2},
		{"1.-", api.ErrText, 2},
		{"1. 2", api.ErrText, 2},
		{"1.2.3.4", api.ErrText, 5},
		{"1.2.3a", api.ErrText, 5},
		{"1.2.3-", api.ErrText, 6},
		{"1.2.3- 2", api.ErrText, 6},
		{"1.2.3-a.", api.ErrText, 8},
		{"1.2.3-a_", api.ErrText, 7},
		{"1.2.3+", api.ErrText, 6},
		{"1.2.3+a+b", api.ErrText, 7},
		{"1.2.3+a.||", api.ErrText, 8},
		{"1-a", api.ErrText, 1},
		{"1.2-a", api.ErrText, 3},
		{"1+a", api.ErrText, 1},
		{"1.2+a", api.ErrText, 3},
		{"*.1", api.ErrText, 1},
		{"x-1", api.ErrText, 1},
		{"1.x.x", api.ErrText, 3},
		{"1.x.2", api.ErrText, 3},
		{"1.x-a", api.ErrText, 3},
		{"1.2.*-a", api.ErrText, 5},
		{"1.2.X+a", api.ErrText, 5},
		{"1x", api.ErrText, 1},
		{"x1", api.ErrText, 1},
		{"**", api.ErrText, 1},
		{">", api.ErrText, 1},
		{">=", api.ErrText, 2},
		{"> =1", api.ErrText, 1},
		{"=>1", api.ErrText, 1},
		{"==1", api.ErrText, 1},
		{">==1", api.ErrText, 2},
		{"<>1", api.ErrText, 1},
		{"^~1", api.ErrText, 1},
		{"~ 1", api.ErrText, 1},
		{"^", api.ErrText, 1},
		{"^-1", api.ErrText, 1},
		{">|| 1", api.ErrText, 1},
		{">| 1", api.ErrText, 1},
		{"1>2", api.ErrText, 1},
		{"1^2", api.ErrText, 1},
		{"1 a", api.ErrText, 2},
		{"1 -", api.ErrText, 3},
		{"1 - ", api.ErrText, 4},
		{"1 -2", api.ErrText, 3},
		{"1 -- 2", api.ErrText, 3},
		{"1- 2", api.ErrText, 1},
		{"1 - - 2", api.ErrText, 4},
		{"1 - >2", api.ErrText, 4},
		{"1 - =2", api.ErrText, 4},
		{"1 - ||", api.ErrText, 4},
		{"1 -||", api.ErrText, 3},
		{"1 - 2 3", api.ErrText, 6},
		{"1 - 2 >3", api.ErrText, 6},
		{"1 - 2 - 3", api.ErrText, 6},
		{"=1 - 2", api.ErrText, 3},
		{"^1 - 2", api.ErrText, 3},
		{">=1 - 2", api.ErrText, 4},
		{"1 2 - 3", api.ErrText, 4},
		{"1 || 2 3 - 4", api.ErrText, 9},
		{"|", api.ErrText, 0},
		{"1|", api.ErrText, 1},
		{"1 |", api.ErrText, 2},
		{"1|2", api.ErrText, 1},
		{"1 | | 2", api.ErrText, 2},
		{"|||", api.ErrText, 2},
		{"1 ||| 2", api.ErrText, 4},
		{"1 - 2|", api.ErrText, 5},
		// Needless zeros are told at the first of them, though more is wrong behind.
		{"00", api.ErrText, 0},
		{"01x", api.ErrText, 0},
		{">=1.02", api.ErrText, 4},
		{"1.2.03-", api.ErrText, 4},
		{"1 - 02", api.ErrText, 4},
		{"1.2.3-00", api.ErrText, 6},
		{"1.2.3-a.01.b", api.ErrText, 8},
		{"1.2.3-01_", api.ErrText, 6},
		{"1 || ^1.2.3-1.00+00", api.ErrText, 14},
		// A number that is too great, likewise.
		{"1000000000", api.ErrRange, 0},
		{"<=1.1000000000x", api.ErrRange, 4},
		{"1 - 1.2.18446744073709551617", api.ErrRange, 8},
		{"1000000000 01", api.ErrRange, 0},
		{"01 1000000000", api.ErrText, 0},
		{"1 | 1000000000", api.ErrText, 2},
		{"1 || 1000000000 |", api.ErrRange, 5},
	} {
		l, e, at := ranges.Parse(c.text)
		if l != nil || e != c.want || at != c.at {
			t.Errorf("Parse(%q) = %+v, %d, %d, want nothing, %d, %d", c.text, l, e, at, c.want, c.at)
		}
		for _, v := range []api.Version{{Major: 1}, {Major: -1}} {
			if ok, e, at := ranges.Admits(c.text, v); ok || e != c.want || at != c.at {
				t.Errorf("Admits(%q, %+v) = %v, %d, %d, want false, %d, %d", c.text, v, ok, e, at, c.want, c.at)
			}
		}
	}
}

// R2: versions that a range admits or not, and such as are none.
func TestAdmits(t *testing.T) {
	for _, c := range []struct {
		text string
		v    api.Version
		want bool
		e    api.Errno
	}{
		{"^1.2", api.Version{Major: 1, Minor: 9}, true, api.OK},
		{"^1.2", api.Version{Major: 1, Minor: 9, Build: "b"}, true, api.OK},
		{"^1.2", api.Version{Major: 2, Pre: "0"}, false, api.OK},
		{"1.2.3", api.Version{Major: 1, Minor: 2, Patch: 3, Build: "b"}, true, api.OK},
		{"1.2.3+a", api.Version{Major: 1, Minor: 2, Patch: 3, Build: "b"}, true, api.OK},
		{"1.2.3", api.Version{Major: 1, Minor: 2, Patch: 3, Pre: "b"}, false, api.OK},
		{"*", api.Version{Major: 1000000000, Minor: 1000000000, Patch: 1000000000}, true, api.OK},
		{"*", api.Version{Pre: "0"}, true, api.OK},
		{"1", api.Version{Major: 1, Minor: 1000000000, Patch: 1000000000}, true, api.OK},
		{">999999999", api.Version{Major: 1000000000, Pre: "0"}, true, api.OK},
		{"*", api.Version{Major: -1}, false, api.ErrKind},
		{"*", api.Version{Minor: 1000000001}, false, api.ErrKind},
		{"*", api.Version{Pre: "01"}, false, api.ErrKind},
		{"<*", api.Version{Pre: "a..b"}, false, api.ErrKind},
		{"*", api.Version{Build: "+"}, false, api.ErrKind},
	} {
		if got, e, at := ranges.Admits(c.text, c.v); got != c.want || e != c.e || at != 0 {
			t.Errorf("Admits(%q, %+v) = %v, %d, %d, want %v, %d, 0", c.text, c.v, got, e, at, c.want, c.e)
		}
	}
}

// R3: lists as texts.
func TestText(t *testing.T) {
	zero, one, two := api.Version{Pre: "0"}, api.Version{Major: 1, Build: "b"}, api.Version{Major: 2, Pre: "a.1"}
	most := api.Version{Major: 1000000000, Minor: 1000000000, Patch: 1000000000}
	for _, c := range []struct {
		list []api.Span
		want string
	}{
		{nil, "<0.0.0-0"},
		{[]api.Span{{From: two, To: one}}, "<0.0.0-0"},
		{[]api.Span{{From: zero, To: zero}}, "<0.0.0-0"},
		{[]api.Span{{From: zero, Open: true}}, "*"},
		{[]api.Span{{From: zero, To: api.Version{Major: -1}, Open: true}}, "*"},
		{[]api.Span{{From: api.Version{Pre: "0", Build: "b"}, Open: true}}, "*"},
		{[]api.Span{{From: api.Version{}, Open: true}}, ">=0.0.0"},
		{[]api.Span{{From: api.Version{Pre: "0.0"}, Open: true}}, ">=0.0.0-0.0"},
		{[]api.Span{{From: one, Open: true}}, ">=1.0.0"},
		{[]api.Span{{From: zero, To: one}}, "<1.0.0"},
		{[]api.Span{{From: one, To: two}}, ">=1.0.0 <2.0.0-a.1"},
		{[]api.Span{{From: zero, To: most}}, "<1000000000.1000000000.1000000000"},
		{[]api.Span{{From: most, Open: true}, {From: one, To: two}, {From: zero, To: api.Version{}}}, "<0.0.0 || >=1.0.0 <2.0.0-a.1 || >=1000000000.1000000000.1000000000"},
		{[]api.Span{{From: two, Open: true}, {From: zero, To: one}, {From: one, To: two}}, "*"},
	} {
		if got, e := ranges.Text(c.list); got != c.want || e != api.OK {
			t.Errorf("Text(%+v) = %q, %d, want %q", c.list, got, e, c.want)
		}
	}
	for _, l := range [][]api.Span{{{From: api.Version{Major: -1}, Open: true}}, {{From: one, To: two}, {From: two, To: api.Version{Pre: "_"}}}} {
		if got, e := ranges.Text(l); got != "" || e != api.ErrText {
			t.Errorf("Text(%+v) = %q, %d, want ErrText", l, got, e)
		}
	}
}

// R1, R3: the text of a list is a range that has the list again.
func TestTextIsARange(t *testing.T) {
	for _, text := range []string{"", "<*", "^1.2 || 3.x", "1.2.3-a - 2 || <1 || >7.7.7", ver.Text(api.Version{Patch: 1, Pre: "x"})} {
		l, _, _ := ranges.Parse(text)
		told, _ := ranges.Text(l)
		again, e, _ := ranges.Parse(told)
		if e != api.OK || !slices.Equal(l, again) {
			t.Errorf("%q has %+v, but its text %q has %+v, %d", text, l, told, again, e)
		}
	}
}
