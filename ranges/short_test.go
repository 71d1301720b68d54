package ranges_test

import (
	"cmp"
	"regexp"
	"slices"
	"strconv"
	"strings"
	"testing"

	"pantry/api"
	"pantry/ranges"
	"pantry/span"
	"pantry/ver"
)

const (
	partsPattern   = `[0-9A-Za-z-]+(?:\.[0-9A-Za-z-]+)*`
	partialPattern = `(?:[*xX]|[0-9]+(?:\.[*xX]|\.[0-9]+(?:\.[*xX]|\.[0-9]+(?:-` + partsPattern + `)?(?:\+` + partsPattern + `)?)?)?)`
	testPattern    = `(?:>=|<=|>|<|=|\^|~)?` + partialPattern
	setPattern     = `(?:` + partialPattern + ` +- +` + partialPattern + `|` + testPattern + `(?: +` + testPattern + `)*)?`
)

var (
	whole    = regexp.MustCompile(`^ *` + setPattern + `(?: *\|\| *` + setPattern + `)* *$`)
	numbered = regexp.MustCompile(`([0-9]+)(?:\.([0-9]+)(?:\.([0-9]+)(?:-([0-9A-Za-z.-]*))?(?:\+[0-9A-Za-z.-]*)?)?)?`)
	zeros    = regexp.MustCompile(`^0[0-9]+$`)
)

// begins tells whether a range begins with the text, zeros and great numbers
// aside.
func begins(text string) bool {
	for _, rest := range []string{"", "0", " 0", "|"} {
		if whole.MatchString(text + rest) {
			return true
		}
	}
	return false
}

// firstFault looks for every fault of R1 on its own, and tells the one that
// stands first.
func firstFault(text string) (api.Errno, int) {
	errno, place := api.OK, len(text)+1
	found := func(e api.Errno, at int) {
		if at < place {
			errno, place = e, at
		}
	}
	good := len(text)
	for !begins(text[:good]) {
		good--
	}
	if !whole.MatchString(text) {
		at := good
		if at > 0 && text[at-1] == '|' && !whole.MatchString(text[:at]) {
			at--
		}
		found(api.ErrText, at)
	}
	for _, m := range numbered.FindAllStringSubmatchIndex(text[:good], -1) {
		for group := 1; group <= 3 && m[2*group] >= 0; group++ {
			if digits := text[m[2*group]:m[2*group+1]]; zeros.MatchString(digits) {
				found(api.ErrText, m[2*group])
			} else if len(digits) > 9 {
				found(api.ErrRange, m[2*group])
			}
		}
		if m[8] >= 0 {
			at := m[8]
			for _, part := range strings.Split(text[m[8]:m[9]], ".") {
				if zeros.MatchString(part) {
					found(api.ErrText, at)
				}
				at += len(part) + 1
			}
		}
	}
	if errno == api.OK {
		return api.OK, 0
	}
	return errno, place
}

// names is what a partial gives: up to three numbers, and Pre.
type names struct {
	numbers []int
	pre     string
}

func namesOf(text string) names {
	text, _, _ = strings.Cut(text, "+")
	numbers, pre, _ := strings.Cut(text, "-")
	n := names{pre: pre}
	for _, digits := range strings.Split(numbers, ".") {
		if number, err := strconv.Atoi(digits); err == nil {
			n.numbers = append(n.numbers, number)
		}
	}
	return n
}

func (n names) first() api.Version {
	v := api.Version{Pre: "0"}
	switch len(n.numbers) {
	case 3:
		v.Patch, v.Pre = n.numbers[2], n.pre
		fallthrough
	case 2:
		v.Minor = n.numbers[1]
		fallthrough
	case 1:
		v.Major = n.numbers[0]
	}
	return v
}

// side tells whether a version stands ahead of all that is named (-1), is
// named (0), or stands behind all that is named (1).
func (n names) side(v api.Version) int {
	if len(n.numbers) == 3 {
		return ver.Compare(v, n.first())
	}
	return slices.Compare([]int{v.Major, v.Minor, v.Patch}[:len(n.numbers)], n.numbers)
}

// alike tells whether a version stands not ahead of the first one named, and
// has the same numbers up to that one.
func (n names) alike(v api.Version, count int) bool {
	return ver.Compare(v, n.first()) >= 0 && slices.Equal([]int{v.Major, v.Minor, v.Patch}[:count], n.numbers[:count])
}

func testAdmits(text string, v api.Version) bool {
	partial := strings.TrimLeft(text, "<>=^~")
	n := namesOf(partial)
	switch strings.TrimSuffix(text, partial) {
	case ">=":
		return n.side(v) >= 0
	case "<=":
		return n.side(v) <= 0
	case ">":
		return n.side(v) > 0
	case "<":
		return n.side(v) < 0
	case "~":
		return n.alike(v, min(2, len(n.numbers)))
	case "^":
		leading := slices.IndexFunc(n.numbers, func(number int) bool { return number != 0 }) + 1
		return n.alike(v, cmp.Or(leading, len(n.numbers)))
	}
	return n.side(v) == 0
}

// setAdmits tells, version by version, what chapter 5 says of a set.
func setAdmits(text string, v api.Version) bool {
	tests := strings.Fields(text)
	if len(tests) == 3 && tests[1] == "-" {
		return ver.Compare(v, namesOf(tests[0]).first()) >= 0 && namesOf(tests[2]).side(v) <= 0
	}
	for _, test := range tests {
		if !testAdmits(test, v) {
			return false
		}
	}
	return true
}

func rangeAdmits(text string, v api.Version) bool {
	for _, set := range strings.Split(text, "||") {
		if setAdmits(set, v) {
			return true
		}
	}
	return false
}

// someVersions tells versions among which are all bounds that ranges of the
// numbers 0 and 1 can have.
func someVersions() []api.Version {
	var all []api.Version
	for _, major := range []int{0, 1, 2, 1000000000} {
		for _, minor := range []int{0, 1, 2, 1000000000} {
			for _, patch := range []int{0, 1, 2, 1000000000} {
				for _, pre := range []string{"", "0", "0.0", "1", "1.0", "a", "a.0", "a1", "aa", "b"} {
					all = append(all, api.Version{Major: major, Minor: minor, Patch: patch, Pre: pre})
				}
			}
		}
	}
	return all
}

// eachText hands out all texts of up to so many of the signs behind a start.
func eachText(start string, signs []string, most int, hand func(string)) {
	hand(start)
	if most > 0 {
		for _, sign := range signs {
			eachText(start+sign, signs, most-1, hand)
		}
	}
}

// R1, R2, against the grammar as a pattern and against what chapter 5 says of
// each version: all short texts.
func TestShortTexts(t *testing.T) {
	signs := []string{">=", "<", "=", "^", "~", "0", "1", ".", "x", "-", "+a", " ", "|", "1000000000"}
	versions := someVersions()
	for _, c := range []struct {
		start string
		most  int
	}{
		{"", 4}, {"1.0", 3}, {"^0.0", 3}, {"~1.1", 3}, {"1.0.1", 3}, {"0.0.0-", 3}, {"<=0.1.1-1.a", 3},
		{"1 ", 3}, {"1.0 - ", 3}, {"0.1.1 - 0", 3}, {">0 ", 3}, {"0 || ", 3}, {"1.1.1+", 3}, {"* -", 3},
	} {
		eachText(c.start, signs, c.most, func(text string) {
			l, e, at := ranges.Parse(text)
			if errno, place := firstFault(text); e != errno || at != place {
				t.Fatalf("Parse(%q) = %d, %d, want %d, %d", text, e, at, errno, place)
			}
			if e != api.OK {
				return
			}
			if normal, _ := span.Normal(l); !slices.Equal(normal, l) {
				t.Fatalf("Parse(%q) = %+v is not normal", text, l)
			}
			for _, v := range versions {
				if got, want := span.Holds(l, v), rangeAdmits(text, v); got != want {
					t.Fatalf("%q has %+v = %v, want %v", text, v, got, want)
				}
			}
		})
	}
}

// R1, against the grammar as a pattern: every byte at every place.
func TestBytes(t *testing.T) {
	for _, text := range []string{" >=10.20.30-4.b-5+6.07 <1.x || 1.2 - 3.*  ||~4", "1.2.3 - 2.3.4-0 || * ||^0.0.0"} {
		for at := range text {
			for sign := range 256 {
				changed := text[:at] + string([]byte{byte(sign)}) + text[at+1:]
				_, e, place := ranges.Parse(changed)
				if wantE, wantPlace := firstFault(changed); e != wantE || place != wantPlace {
					t.Errorf("Parse(%q) = %d, %d, want %d, %d", changed, e, place, wantE, wantPlace)
				}
			}
		}
	}
}
