package span_test

import (
	"math"
	"slices"
	"strings"
	"testing"

	"pantry/api"
	"pantry/span"
	"pantry/ver"
)

// version reads a version, which may also have a number that only a bound has.
func version(text string) api.Version {
	text = strings.ReplaceAll(text, "MAX", "999999999")
	v, e, at := ver.Parse(text)
	if e != api.OK {
		panic(text + " is wrong at " + text[at:])
	}
	for _, number := range []*int{&v.Major, &v.Minor, &v.Patch} {
		if *number == 999999999 {
			*number = 1000000000
		}
	}
	return v
}

func closed(from, to string) api.Span { return api.Span{From: version(from), To: version(to)} }

func open(from string) api.Span { return api.Span{From: version(from), Open: true} }

// unsound are versions that are not sound.
var unsound = []api.Version{
	{Major: -1},
	{Minor: 1000000001},
	{Patch: math.MinInt},
	{Pre: "01"},
	{Pre: "a..b"},
	{Build: "_"},
}

// X1: which lists are sound.
func TestSound(t *testing.T) {
	good := []api.Span{closed("2.0.0", "1.0.0"), closed("1.0.0", "1.0.0"), open("0.0.0-a+01"), closed("MAX.MAX.MAX", "MAX.MAX.MAX")}
	if !span.Sound(nil) || !span.Sound([]api.Span{}) || !span.Sound(good) {
		t.Errorf("sound lists are said not to be")
	}
	one := version("1.0.0")
	for _, v := range unsound {
		for _, c := range []struct {
			s    api.Span
			want bool
		}{
			{api.Span{From: v, To: one}, false},
			{api.Span{From: one, To: v}, false},
			{api.Span{From: v, To: v}, false},
			{api.Span{From: v, Open: true}, false},
			{api.Span{From: one, To: v, Open: true}, true},
		} {
			for _, l := range [][]api.Span{{c.s}, append([]api.Span{c.s}, good...), append(slices.Clone(good), c.s)} {
				if got := span.Sound(l); got != c.want {
					t.Errorf("Sound(%+v) = %v, want %v", l, got, c.want)
				}
			}
		}
	}
}

// X1: which versions a list has, whatever both are.
func TestHolds(t *testing.T) {
	list := []api.Span{closed("3.0.0", "4.0.0-0"), closed("1.0.0-a", "1.2.0"), closed("9.0.0", "8.0.0"), closed("7.0.0", "7.0.0"), open("20.0.0-a.1")}
	for _, c := range []struct {
		list []api.Span
		v    api.Version
		want bool
	}{
		{nil, version("1.0.0"), false},
		{list, version("1.0.0-0"), false},
		{list, version("1.0.0-a"), true},
		{list, version("1.0.0-a+b"), true},
		{list, version("1.0.0"), true},
		{list, version("1.2.0-z"), true},
		{list, version("1.2.0"), false},
		{list, version("1.2.0+b"), false},
		{list, version("3.0.0-z"), false},
		{list, version("3.0.0"), true},
		{list, version("3.999.999"), true},
		{list, version("4.0.0-0"), false},
		{list, version("7.0.0"), false},
		{list, version("8.5.0"), false},
		{list, version("20.0.0-a.0"), false},
		{list, version("20.0.0-a.1"), true},
		{list, version("MAX.MAX.MAX"), true},
		{list, api.Version{Major: math.MaxInt, Build: "_"}, true},
		{list, api.Version{Major: 3, Minor: 1, Pre: "..", Build: "_"}, true},
		{list, api.Version{Major: -1}, false},
		{list, api.Version{Major: 20, Pre: "a.01"}, true},
		{[]api.Span{{From: api.Version{Major: -2, Pre: "00"}, To: api.Version{Major: -1, Pre: "_"}}}, api.Version{Major: -2, Pre: "0"}, true},
		{[]api.Span{{From: api.Version{Major: -2, Pre: "00"}, To: api.Version{Major: -1, Pre: "_"}}}, api.Version{Major: -1, Pre: "_"}, false},
		{[]api.Span{{From: version("1.0.0"), To: version("0.5.0"), Open: true}}, version("2.0.0"), true},
	} {
		if got := span.Holds(c.list, c.v); got != c.want {
			t.Errorf("Holds(%+v, %+v) = %v, want %v", c.list, c.v, got, c.want)
		}
	}
}

// X2: the one form of lists.
func TestNormal(t *testing.T) {
	for _, c := range []struct{ list, want []api.Span }{
		{nil, nil},
		{[]api.Span{closed("1.0.0", "1.0.0"), closed("1.0.0+a", "1.0.0+b"), closed("2.0.0", "1.0.0")}, nil},
		{[]api.Span{closed("1.0.0+a", "2.0.0+b")}, []api.Span{closed("1.0.0", "2.0.0")}},
		{[]api.Span{{From: version("1.0.0+a"), To: api.Version{Major: -7, Pre: "_"}, Open: true}}, []api.Span{open("1.0.0")}},
		{[]api.Span{{From: version("2.0.0"), To: version("1.0.0"), Open: true}}, []api.Span{open("2.0.0")}},
		{[]api.Span{closed("3.0.0", "4.0.0"), closed("1.0.0", "2.0.0")}, []api.Span{closed("1.0.0", "2.0.0"), closed("3.0.0", "4.0.0")}},
		{[]api.Span{closed("2.0.0", "3.0.0"), closed("1.0.0", "2.0.0")}, []api.Span{closed("1.0.0", "3.0.0")}},
		{[]api.Span{closed("2.0.0+a", "3.0.0"), closed("1.0.0", "2.0.0+b")}, []api.Span{closed("1.0.0", "3.0.0")}},
		{[]api.Span{closed("1.0.0", "2.0.0"), closed("2.0.0-a.0", "2.0.0-b")}, []api.Span{closed("1.0.0", "2.0.0")}},
		{[]api.Span{closed("1.0.0", "2.0.0-a"), closed("2.0.0-a.0", "2.0.0-b")}, []api.Span{closed("1.0.0", "2.0.0-a"), closed("2.0.0-a.0", "2.0.0-b")}},
		{[]api.Span{closed("1.0.0", "4.0.0"), closed("2.0.0", "3.0.0")}, []api.Span{closed("1.0.0", "4.0.0")}},
		{[]api.Span{closed("1.0.0", "3.0.0"), closed("2.0.0", "4.0.0"), closed("1.5.0", "2.5.0")}, []api.Span{closed("1.0.0", "4.0.0")}},
		{[]api.Span{closed("1.0.0", "2.0.0"), closed("5.0.0", "0.0.0")}, []api.Span{closed("1.0.0", "2.0.0")}},
		{[]api.Span{open("3.0.0"), closed("1.0.0", "2.0.0"), open("4.0.0"), closed("5.0.0", "6.0.0")}, []api.Span{closed("1.0.0", "2.0.0"), open("3.0.0")}},
		{[]api.Span{open("3.0.0"), closed("1.0.0", "3.0.0")}, []api.Span{open("1.0.0")}},
		{[]api.Span{open("0.0.0-0")}, []api.Span{open("0.0.0-0")}},
		{[]api.Span{closed("0.0.0-0", "MAX.MAX.MAX")}, []api.Span{closed("0.0.0-0", "MAX.MAX.MAX")}},
		{[]api.Span{open("MAX.MAX.MAX"), closed("0.0.0-0", "MAX.MAX.MAX")}, []api.Span{open("0.0.0-0")}},
		{[]api.Span{closed("0.0.0-0", "0.0.0-0.0")}, []api.Span{closed("0.0.0-0", "0.0.0-0.0")}},
	} {
		got, e := span.Normal(c.list)
		if e != api.OK || !slices.Equal(got, c.want) {
			t.Errorf("Normal(%+v) = %+v, %d, want %+v", c.list, got, e, c.want)
		}
	}
}

// X3: what both have, and what one of them has.
func TestMeetAndJoin(t *testing.T) {
	for _, c := range []struct{ a, b, meet, join []api.Span }{
		{nil, nil, nil, nil},
		{nil, []api.Span{open("1.0.0")}, nil, []api.Span{open("1.0.0")}},
		{
			[]api.Span{closed("1.0.0", "3.0.0")}, []api.Span{closed("2.0.0", "4.0.0")},
			[]api.Span{closed("2.0.0", "3.0.0")}, []api.Span{closed("1.0.0", "4.0.0")},
		},
		{
			[]api.Span{closed("1.0.0", "2.0.0")}, []api.Span{closed("2.0.0", "3.0.0")},
			nil, []api.Span{closed("1.0.0", "3.0.0")},
		},
		{
			[]api.Span{closed("1.0.0", "3.0.0"), closed("2.0.0", "4.0.0")}, []api.Span{closed("6.0.0", "5.0.0")},
			nil, []api.Span{closed("1.0.0", "4.0.0")},
		},
		{
			[]api.Span{closed("4.0.0", "5.0.0"), closed("1.0.0+a", "2.0.0")}, []api.Span{open("4.5.0+b"), closed("0.0.0-0", "1.5.0-a+c")},
			[]api.Span{closed("1.0.0", "1.5.0-a"), closed("4.5.0", "5.0.0")}, []api.Span{closed("0.0.0-0", "2.0.0"), open("4.0.0")},
		},
		{
			[]api.Span{closed("1.0.0", "2.0.0"), closed("2.0.0", "3.0.0")}, []api.Span{open("0.0.0"), open("1.5.0")},
			[]api.Span{closed("1.0.0", "3.0.0")}, []api.Span{open("0.0.0")},
		},
		{
			[]api.Span{open("1.0.0")}, []api.Span{open("2.0.0")},
			[]api.Span{open("2.0.0")}, []api.Span{open("1.0.0")},
		},
	} {
		for _, pair := range [][2][]api.Span{{c.a, c.b}, {c.b, c.a}} {
			meet, e := span.Meet(pair[0], pair[1])
			if e != api.OK || !slices.Equal(meet, c.meet) {
				t.Errorf("Meet(%+v, %+v) = %+v, %d, want %+v", pair[0], pair[1], meet, e, c.meet)
			}
			join, e := span.Join(pair[0], pair[1])
			if e != api.OK || !slices.Equal(join, c.join) {
				t.Errorf("Join(%+v, %+v) = %+v, %d, want %+v", pair[0], pair[1], join, e, c.join)
			}
		}
	}
}

// X2, X3: lists that are not sound are refused, also where the wrong span has
// nothing.
func TestUnsound(t *testing.T) {
	good := []api.Span{open("1.0.0")}
	for _, v := range unsound {
		for _, s := range []api.Span{{From: v, To: version("9.0.0")}, {From: version("1.0.0"), To: v}, {From: v, To: v}, {From: v, Open: true}} {
			bad := []api.Span{closed("1.0.0", "2.0.0"), s}
			for i, call := range []func() ([]api.Span, api.Errno){
				func() ([]api.Span, api.Errno) { return span.Normal(bad) },
				func() ([]api.Span, api.Errno) { return span.Meet(bad, good) },
				func() ([]api.Span, api.Errno) { return span.Meet(good, bad) },
				func() ([]api.Span, api.Errno) { return span.Meet(nil, bad) },
				func() ([]api.Span, api.Errno) { return span.Join(bad, good) },
				func() ([]api.Span, api.Errno) { return span.Join(good, bad) },
			} {
				if l, e := call(); l != nil || e != api.ErrText {
					t.Errorf("call %d with %+v = %+v, %d, want ErrText", i, bad, l, e)
				}
			}
		}
	}
}
