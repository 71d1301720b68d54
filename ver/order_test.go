package ver_test

import (
	"cmp"
	"math"
	"math/big"
	"strings"
	"testing"

	"pantry/api"
	"pantry/ver"
)

// W2: which versions are sound.
func TestSound(t *testing.T) {
	for _, c := range []struct {
		v    api.Version
		want bool
	}{
		{api.Version{}, true},
		{api.Version{Major: 1000000000, Minor: 1000000000, Patch: 1000000000}, true},
		{api.Version{Major: 1000000001}, false},
		{api.Version{Minor: 1000000001}, false},
		{api.Version{Patch: 1000000001}, false},
		{api.Version{Major: -1}, false},
		{api.Version{Minor: -1}, false},
		{api.Version{Patch: -1}, false},
		{api.Version{Major: math.MaxInt}, false},
		{api.Version{Minor: math.MinInt}, false},
		{api.Version{Pre: "0"}, true},
		{api.Version{Pre: "a.0.-.A0"}, true},
		{api.Version{Pre: strings.Repeat("10.", 100) + "10"}, true},
		{api.Version{Pre: "00"}, false},
		{api.Version{Pre: "a.01"}, false},
		{api.Version{Pre: "01a"}, true},
		{api.Version{Pre: "."}, false},
		{api.Version{Pre: ".a"}, false},
		{api.Version{Pre: "a."}, false},
		{api.Version{Pre: "a..b"}, false},
		{api.Version{Pre: "a+b"}, false},
		{api.Version{Pre: "a b"}, false},
		{api.Version{Pre: "\xc3\xa4"}, false},
		{api.Version{Build: "00.01a"}, true},
		{api.Version{Build: strings.Repeat("0", 1000)}, true},
		{api.Version{Build: "."}, false},
		{api.Version{Build: "a."}, false},
		{api.Version{Build: "a+b"}, false},
		{api.Version{Pre: "00", Build: "00"}, false},
		{api.Version{Pre: "0", Build: "00"}, true},
		{api.Version{Pre: "a", Build: "_"}, false},
	} {
		if got := ver.Sound(c.v); got != c.want {
			t.Errorf("Sound(%+v) = %v, want %v", c.v, got, c.want)
		}
	}
}

// W2: Pre and Build are sound just if a version with them can be read.
func TestSoundShort(t *testing.T) {
	eachText("", []string{"0", "1", ".", "-", "+", "a", "_"}, 5, func(text string) {
		for _, v := range []api.Version{{Pre: text}, {Build: text}, {Pre: text, Build: "0" + text}, {Pre: "a", Build: text}} {
			back, e, _ := ver.Parse(ver.Text(v))
			if want := e == api.OK && back == v; ver.Sound(v) != want {
				t.Fatalf("Sound(%+v) = %v, want %v", v, !want, want)
			}
		}
	})
}

// W2: how versions are written, whatever they are.
func TestText(t *testing.T) {
	for _, c := range []struct {
		v    api.Version
		want string
	}{
		{api.Version{}, "0.0.0"},
		{api.Version{Major: 1, Minor: 20, Patch: 300}, "1.20.300"},
		{api.Version{Major: 1000000000, Minor: 1000000000, Patch: 1000000000}, "1000000000.1000000000.1000000000"},
		{api.Version{Pre: "a.0"}, "0.0.0-a.0"},
		{api.Version{Build: "00"}, "0.0.0+00"},
		{api.Version{Pre: "a", Build: "b"}, "0.0.0-a+b"},
		{api.Version{Major: -1, Minor: math.MinInt64, Patch: math.MaxInt64}, "-1.-9223372036854775808.9223372036854775807"},
		{api.Version{Pre: "\xff+.", Build: "- \n"}, "0.0.0-\xff+.+- \n"},
	} {
		if got := ver.Text(c.v); got != c.want {
			t.Errorf("Text(%+v) = %q, want %q", c.v, got, c.want)
		}
	}
}

// W3: versions from the first one to the last one; those of one row stand
// together.
func TestCompare(t *testing.T) {
	rows := [][]api.Version{
		{{Major: math.MinInt, Minor: 5}},
		{{Major: -1, Minor: 5}},
		{{Minor: -1, Patch: 7}},
		{{Patch: math.MinInt}},
		{{Pre: "0"}, {Pre: "00", Build: "x"}, {Pre: "000"}},
		{{Pre: "0.0"}},
		{{Pre: "0."}},
		{{Pre: "1"}, {Pre: "01"}},
		{{Pre: "1.0"}, {Pre: "01.00"}},
		{{Pre: "1.2.3"}},
		{{Pre: "1.2.10"}},
		{{Pre: "1.10"}},
		{{Pre: "1.a"}},
		{{Pre: "2"}},
		{{Pre: "10"}},
		{{Pre: "9223372036854775807"}},
		{{Pre: "9223372036854775808"}},
		{{Pre: "18446744073709551617"}, {Pre: "00018446744073709551617"}},
		{{Pre: "99999999999999999999"}},
		{{Pre: "100000000000000000000"}},
		{{Pre: "100000000000000000000.0"}},
		{{Pre: "."}},
		{{Pre: ".."}},
		{{Pre: ".a"}},
		{{Pre: "-"}},
		{{Pre: "-1"}},
		{{Pre: "0a"}},
		{{Pre: "1a"}},
		{{Pre: "1\u0663"}},
		{{Pre: "A"}},
		{{Pre: "Z.0"}},
		{{Pre: "a"}, {Pre: "a", Build: "z"}},
		{{Pre: "a.0"}},
		{{Pre: "a.0.0"}},
		{{Pre: "a.b"}},
		{{Pre: "a-"}},
		{{Pre: "aa"}},
		{{Pre: "b"}},
		{{Pre: "\xff"}},
		{{}, {Build: "a"}, {Build: "b.1"}},
		{{Patch: 1, Pre: "a"}},
		{{Patch: 1}},
		{{Patch: 2}},
		{{Patch: 10, Pre: "0"}},
		{{Minor: 1, Patch: -1}},
		{{Minor: 1, Pre: "0"}},
		{{Minor: 1}},
		{{Minor: 2}},
		{{Minor: 10}},
		{{Major: 1, Minor: -2, Patch: 3}},
		{{Major: 1}},
		{{Major: 2, Pre: "0"}},
		{{Major: 2}},
		{{Major: 10}},
		{{Major: 1000000000}},
		{{Major: math.MaxInt}},
	}
	for i, row := range rows {
		for j, other := range rows {
			want := cmp.Compare(i, j)
			for _, a := range row {
				for _, b := range other {
					if got := ver.Compare(a, b); got != want {
						t.Errorf("Compare(%+v, %+v) = %d, want %d", a, b, got, want)
					}
				}
			}
		}
	}
}

// orderOfParts compares two parts as W3 says it, with numbers as such.
func orderOfParts(a, b string) int {
	numberA, isA := new(big.Int).SetString(a, 10)
	numberB, isB := new(big.Int).SetString(b, 10)
	isA = isA && !strings.ContainsAny(a, "+-_")
	isB = isB && !strings.ContainsAny(b, "+-_")
	switch {
	case isA && isB:
		return numberA.Cmp(numberB)
	case isA:
		return -1
	case isB:
		return 1
	}
	return strings.Compare(a, b)
}

func orderOfPre(a, b string) int {
	if a == "" || b == "" {
		return strings.Compare(b, a)
	}
	partsA, partsB := strings.Split(a, "."), strings.Split(b, ".")
	for i := range min(len(partsA), len(partsB)) {
		if order := orderOfParts(partsA[i], partsB[i]); order != 0 {
			return order
		}
	}
	return cmp.Compare(len(partsA), len(partsB))
}

// W3, against a second way of telling it: all pairs of short texts as Pre.
func TestCompareShort(t *testing.T) {
	var all []string
	eachText("", []string{"0", "1", "2", ".", "-", "a", "A"}, 3, func(text string) { all = append(all, text) })
	for _, start := range []string{"a.", "1.0", "10000000000000000000000"} {
		eachText(start, []string{"0", "1", ".", "a"}, 2, func(text string) { all = append(all, text) })
	}
	for _, a := range all {
		for _, b := range all {
			got, want := ver.Compare(api.Version{Pre: a, Build: b}, api.Version{Pre: b, Build: a}), orderOfPre(a, b)
			if got != want {
				t.Fatalf("Compare of Pre %q and %q = %d, want %d", a, b, got, want)
			}
		}
	}
}

// W4: the version right behind.
func TestNext(t *testing.T) {
	const most = 1 << 62
	for _, c := range []struct{ v, want api.Version }{
		{api.Version{}, api.Version{Patch: 1, Pre: "0"}},
		{api.Version{Major: 1, Minor: 2, Patch: 3, Build: "b"}, api.Version{Major: 1, Minor: 2, Patch: 4, Pre: "0"}},
		{api.Version{Major: 1, Minor: 2, Patch: 3, Pre: "a", Build: "b"}, api.Version{Major: 1, Minor: 2, Patch: 3, Pre: "a.0"}},
		{api.Version{Patch: 1, Pre: "0"}, api.Version{Patch: 1, Pre: "0.0"}},
		{api.Version{Patch: 999999999}, api.Version{Patch: 1000000000, Pre: "0"}},
		{api.Version{Patch: 1000000000}, api.Version{Patch: 1000000001, Pre: "0"}},
		{api.Version{Patch: most - 2}, api.Version{Patch: most - 1, Pre: "0"}},
		{api.Version{Patch: most - 1}, api.Version{Patch: most, Pre: "0"}},
		{api.Version{Patch: most}, api.Version{Patch: most, Pre: "0"}},
		{api.Version{Patch: most + 1}, api.Version{Patch: most + 1, Pre: "0"}},
		{api.Version{Patch: math.MaxInt, Build: "b"}, api.Version{Patch: math.MaxInt, Pre: "0"}},
		{api.Version{Patch: math.MaxInt, Pre: "a"}, api.Version{Patch: math.MaxInt, Pre: "a.0"}},
		{api.Version{Patch: -1}, api.Version{Pre: "0"}},
		{api.Version{Major: math.MinInt, Minor: math.MaxInt, Patch: math.MinInt}, api.Version{Major: math.MinInt, Minor: math.MaxInt, Patch: math.MinInt + 1, Pre: "0"}},
		{api.Version{Pre: "."}, api.Version{Pre: "..0"}},
	} {
		if got := ver.Next(c.v); got != c.want {
			t.Errorf("Next(%+v) = %+v, want %+v", c.v, got, c.want)
		}
	}
}

// W4: Next(v) is sound and stands behind v, and no sound version between.
func TestNextIsRightBehind(t *testing.T) {
	var all []api.Version
	eachText("", []string{"0", "1", ".", "-", "a"}, 4, func(text string) {
		for patch := range 3 {
			if v := (api.Version{Major: 1, Patch: patch, Pre: text}); ver.Sound(v) {
				all = append(all, v)
			}
		}
	})
	for _, v := range all {
		next := ver.Next(v)
		if !ver.Sound(next) || ver.Compare(v, next) != -1 {
			t.Fatalf("Next(%+v) = %+v", v, next)
		}
		for _, w := range all {
			if ver.Compare(v, w) < 0 && ver.Compare(w, next) < 0 {
				t.Fatalf("%+v stands between %+v and %+v", w, v, next)
			}
		}
	}
}
