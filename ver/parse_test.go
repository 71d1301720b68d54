package ver_test

import (
	"regexp"
	"strings"
	"testing"

	"pantry/api"
	"pantry/ver"
)

// W1: all fields of a version that is read.
func TestParse(t *testing.T) {
	long := strings.Repeat("9", 94)
	for _, c := range []struct {
		text string
		want api.Version
	}{
		{"0.0.0", api.Version{}},
		{"1.20.300", api.Version{Major: 1, Minor: 20, Patch: 300}},
		{"999999999.999999999.999999999", api.Version{Major: 999999999, Minor: 999999999, Patch: 999999999}},
		{"1.2.3-0", api.Version{Major: 1, Minor: 2, Patch: 3, Pre: "0"}},
		{"1.2.3--", api.Version{Major: 1, Minor: 2, Patch: 3, Pre: "-"}},
		{"1.2.3--01.0-0.0a", api.Version{Major: 1, Minor: 2, Patch: 3, Pre: "-01.0-0.0a"}},
		{"1.2.3-" + long, api.Version{Major: 1, Minor: 2, Patch: 3, Pre: long}},
		{"1.2.3+0" + long[1:], api.Version{Major: 1, Minor: 2, Patch: 3, Build: "0" + long[1:]}},
		{"1.2.3+00.-01.a-b", api.Version{Major: 1, Minor: 2, Patch: 3, Build: "00.-01.a-b"}},
		{"1.2.3-azAZ09.-+09AZaz.-", api.Version{Major: 1, Minor: 2, Patch: 3, Pre: "azAZ09.-", Build: "09AZaz.-"}},
	} {
		got, e, at := ver.Parse(c.text)
		if got != c.want || e != api.OK || at != 0 {
			t.Errorf("Parse(%q) = %+v, %d, %d, want %+v, 0, 0", c.text, got, e, at, c.want)
		}
	}
}

// W1: wrong texts: the fault that stands first, and where.
func TestParseFaults(t *testing.T) {
	for _, c := range []struct {
		text string
		want api.Errno
		at   int
	}{
		{"1.2.3-" + strings.Repeat("a", 95), api.ErrLong, 0},
		{"x" + strings.Repeat("a", 100), api.ErrLong, 0},
		{"1.2.3-" + strings.Repeat("a", 93) + ".", api.ErrText, 100},
		{strings.Repeat("9", 100), api.ErrRange, 0},
		{"", api.ErrText, 0},
		{"v1.2.3", api.ErrText, 0},
		{" 1.2.3", api.ErrText, 0},
		{"-1.2.3", api.ErrText, 0},
		{"1", api.ErrText, 1},
		{"1.", api.ErrText, 2},
		{"1..2", api.ErrText, 2},
		{"1.2.", api.ErrText, 4},
		{"1.2-a", api.ErrText, 3},
		{"1.2.*", api.ErrText, 4},
		{"1.2.3.4", api.ErrText, 5},
		{"1.2.3a", api.ErrText, 5},
		{"1.2.3\x00", api.ErrText, 5},
		{"1.2.3-", api.ErrText, 6},
		{"1.2.3-+a", api.ErrText, 6},
		{"1.2.3-.a", api.ErrText, 6},
		{"1.2.3-a.", api.ErrText, 8},
		{"1.2.3-a.+", api.ErrText, 8},
		{"1.2.3-\xff", api.ErrText, 6},
		{"1.2.3-a/", api.ErrText, 7},
		{"1.2.3-a:", api.ErrText, 7},
		{"1.2.3-a@", api.ErrText, 7},
		{"1.2.3-a[", api.ErrText, 7},
		{"1.2.3-a`", api.ErrText, 7},
		{"1.2.3-a{", api.ErrText, 7},
		{"1.2.3+", api.ErrText, 6},
		{"1.2.3+a..b", api.ErrText, 8},
		{"1.2.3+a+b", api.ErrText, 7},
		{"1.2.3+a b", api.ErrText, 7},
		{"1.2.\u0663", api.ErrText, 4},
		// Needless zeros are told at the first of them, though more is wrong behind.
		{"00.0.0", api.ErrText, 0},
		{"01x", api.ErrText, 0},
		{"1.00", api.ErrText, 2},
		{"1.2.03-", api.ErrText, 4},
		{"1.2.3-00", api.ErrText, 6},
		{"1.2.3-a.01.b", api.ErrText, 8},
		{"1.2.3-01_", api.ErrText, 6},
		{"1.2.3-01+", api.ErrText, 6},
		{"1.2.3-1.02", api.ErrText, 8},
		// A number that is too great, likewise; of both the text is told first.
		{"1000000000", api.ErrRange, 0},
		{"1.1000000000x", api.ErrRange, 2},
		{"1.2.18446744073709551617", api.ErrRange, 4},
		{"1.2.1000000000-01", api.ErrRange, 4},
		{"01000000000.0.0", api.ErrText, 0},
		{"1000000000.01.0", api.ErrRange, 0},
		{"01.1000000000.0", api.ErrText, 0},
		{"x.1000000000.0", api.ErrText, 0},
	} {
		got, e, at := ver.Parse(c.text)
		if got != (api.Version{}) || e != c.want || at != c.at {
			t.Errorf("Parse(%q) = %+v, %d, %d, want the zero version, %d, %d", c.text, got, e, at, c.want, c.at)
		}
	}
}

const partsPattern = `[0-9A-Za-z-]+(\.[0-9A-Za-z-]+)*`

var (
	versions = regexp.MustCompile(`^([0-9]+)\.([0-9]+)\.([0-9]+)(-` + partsPattern + `)?(\+` + partsPattern + `)?$`)
	numbers  = regexp.MustCompile(`^([0-9]+)(\.([0-9]+)(\.([0-9]+))?)?`)
	inPre    = regexp.MustCompile(`^[0-9]+\.[0-9]+\.[0-9]+-([0-9A-Za-z.-]*)`)
	zeros    = regexp.MustCompile(`^0[0-9]+$`)
)

// begins tells whether a version begins with the text, zeros and great
// numbers aside.
func begins(text string) bool {
	for _, rest := range []string{"", "0", ".0", "0.0", ".0.0", "0.0.0"} {
		if versions.MatchString(text + rest) {
			return true
		}
	}
	return false
}

// firstFault looks for every fault of W1 on its own, and tells the one that
// stands first.
func firstFault(text string) (api.Errno, int) {
	errno, place := api.OK, len(text)+1
	found := func(e api.Errno, at int) {
		if at < place {
			errno, place = e, at
		}
	}
	good := len(text)
	for good > 0 && !begins(text[:good]) {
		good--
	}
	if good < len(text) || !versions.MatchString(text) {
		found(api.ErrText, good)
	}
	if m := inPre.FindStringSubmatchIndex(text[:good]); m != nil {
		at := m[2]
		for _, part := range strings.Split(text[m[2]:m[3]], ".") {
			if zeros.MatchString(part) {
				found(api.ErrText, at)
			}
			at += len(part) + 1
		}
	}
	m := numbers.FindStringSubmatchIndex(text[:good])
	for _, group := range []int{1, 3, 5} {
		if m == nil || m[2*group] < 0 {
			break
		}
		if digits := text[m[2*group]:m[2*group+1]]; zeros.MatchString(digits) {
			found(api.ErrText, m[2*group])
		} else if len(digits) > 9 {
			found(api.ErrRange, m[2*group])
		}
	}
	if errno == api.OK {
		return api.OK, 0
	}
	return errno, place
}

// eachText hands out all texts of up to so many of the signs behind a start.
func eachText(start string, signs []string, most int, hand func(string)) {
	hand(start)
	if most > 0 {
		for _, sign := range signs {
			eachText(start+sign, signs, most-1, hand)
		}
	}
}

// W1, against the grammar as a pattern: all short texts.
func TestParseShort(t *testing.T) {
	signs := []string{"0", "1", ".", "-", "+", "a", "_", "1000000000"}
	for _, start := range []string{"", "1.0", "1.2.3", "1.2.3-", "1.2.3+", "1.2.3-a.0", "1.2.3-a+"} {
		eachText(start, signs, 5, func(text string) {
			v, e, at := ver.Parse(text)
			errno, place := firstFault(text)
			if e != errno || at != place {
				t.Fatalf("Parse(%q) = %d, %d, want %d, %d", text, e, at, errno, place)
			}
			if e == api.OK && ver.Text(v) != text {
				t.Fatalf("Text(Parse(%q)) = %q", text, ver.Text(v))
			}
			if e == api.OK && !ver.Sound(v) {
				t.Fatalf("Parse(%q) is not sound", text)
			}
			if e != api.OK && v != (api.Version{}) {
				t.Fatalf("Parse(%q) = %+v beside an error", text, v)
			}
		})
	}
}

// W1, against the grammar as a pattern: every byte at every place.
func TestParseBytes(t *testing.T) {
	text := "10.20.30-4.b-5.6+7.d"
	for at := range text {
		for sign := range 256 {
			changed := text[:at] + string([]byte{byte(sign)}) + text[at+1:]
			_, e, place := ver.Parse(changed)
			if wantE, wantPlace := firstFault(changed); e != wantE || place != wantPlace {
				t.Errorf("Parse(%q) = %d, %d, want %d, %d", changed, e, place, wantE, wantPlace)
			}
		}
	}
}
