package toml_test

import (
	"reflect"
	"slices"
	"strings"
	"testing"

	"pantry/api"
	"pantry/toml"
)

// shape is a tree with lists that hold nothing all alike: whether such a list
// is nil is not said.
func shape(nodes []api.Node) []api.Node {
	out := append([]api.Node{}, nodes...)
	for i := range out {
		if len(out[i].Kids) == 0 {
			out[i].Kids = nil
		}
	}
	return out
}

// M1: all of a tree's fields.
func TestParseNodes(t *testing.T) {
	for _, c := range []struct {
		text string
		want []api.Node
	}{
		{"", []api.Node{{}}},
		{" \t\n# nothing\n\n", []api.Node{{}}},
		{"k = \"v\"\n \"q r\"\t=-12 # x\nt = true\nf=false", []api.Node{
			{Kids: []int{1, 2, 3, 4}},
			{Kind: 3, Key: "k", Text: "v"},
			{Kind: 4, Key: "q r", Num: -12, At: 9},
			{Kind: 5, Key: "t", Num: 1, At: 24},
			{Kind: 5, Key: "f", At: 33},
		}},
		{"b = [1, [], [\"x\", [true]],\n  -0, # no\n]", []api.Node{
			{Kids: []int{1}},
			{Kind: 1, Key: "b", Kids: []int{2, 3, 4, 8}},
			{Kind: 4, Num: 1, At: 5},
			{Kind: 1, At: 8},
			{Kind: 1, At: 12, Kids: []int{5, 6}},
			{Kind: 3, Text: "x", At: 13},
			{Kind: 1, At: 18, Kids: []int{7}},
			{Kind: 5, Num: 1, At: 19},
			{Kind: 4, At: 29},
		}},
		{"[ a . \"b\" ]\nc = 1\n[a]\nd = 2\n[a.e]", []api.Node{
			{Kids: []int{1}},
			{Key: "a", At: 2, Kids: []int{2, 4, 5}},
			{Key: "b", At: 6, Kids: []int{3}},
			{Kind: 4, Key: "c", Num: 1, At: 12},
			{Kind: 4, Key: "d", Num: 2, At: 22},
			{Key: "e", At: 31},
		}},
		{"[[p.q]]\nx = 1\n[p.q.r]\n[[ p.\"q\"]]\nx = 2\n[p.q.r]\n[p]\nx = 3", []api.Node{
			{Kids: []int{1}},
			{Key: "p", At: 2, Kids: []int{2, 9}},
			{Kind: 2, Key: "q", At: 4, Kids: []int{3, 6}},
			{At: 4, Kids: []int{4, 5}},
			{Kind: 4, Key: "x", Num: 1, At: 8},
			{Key: "r", At: 19},
			{At: 27, Kids: []int{7, 8}},
			{Kind: 4, Key: "x", Num: 2, At: 33},
			{Key: "r", At: 44},
			{Kind: 4, Key: "x", Num: 3, At: 51},
		}},
		{"z = 1\na = 2\n\"\" = 3", []api.Node{
			{Kids: []int{1, 2, 3}},
			{Kind: 4, Key: "z", Num: 1},
			{Kind: 4, Key: "a", Num: 2, At: 6},
			{Kind: 4, Key: "", Num: 3, At: 12},
		}},
		{"-_9Zz-=0", []api.Node{{Kids: []int{1}}, {Kind: 4, Key: "-_9Zz-"}}},
	} {
		got, e, at := toml.Parse(c.text)
		if e != api.OK || at != 0 || !reflect.DeepEqual(shape(got), c.want) {
			t.Errorf("Parse(%q) = %+v, %d, %d, want %+v", c.text, got, e, at, c.want)
		}
	}
}

// M1: what a string stands for.
func TestParseStrings(t *testing.T) {
	for _, c := range []struct{ in, want string }{
		{"", ""},
		{"a\tb ~", "a\tb ~"},
		{`\b\t\n\f\r\"\\`, "\x08\x09\x0a\x0c\x0d\x22\x5c"},
		{`\u0000\u001f\u007F`, "\x00\x1f\x7f"},
		{`\u0080\u00e9\u07FF\u0800\uD7ff\ue000\uFFFD\uFfFf`, "\u0080\u00e9\u07ff\u0800\ud7ff\ue000\ufffd\uffff"},
		{"\u0080\u07ff\u0800\u0fff\u1000\ucfff\ud000\ud7ff\ue000\ufffd\uffff", "\u0080\u07ff\u0800\u0fff\u1000\ucfff\ud000\ud7ff\ue000\ufffd\uffff"},
		{"\U00010000\U0003ffff\U00040000\U000fffff\U00100000\U0010ffff", "\U00010000\U0003ffff\U00040000\U000fffff\U00100000\U0010ffff"},
		{"# = [] '", "# = [] '"},
	} {
		for _, text := range []string{"k = \"" + c.in + "\"", "k = [\"" + c.in + "\"]", "\"" + c.in + "\" = 1"} {
			got, e, at := toml.Parse(text)
			if e != api.OK || at != 0 {
				t.Errorf("Parse(%q) = %d, %d", text, e, at)
				continue
			}
			last := got[len(got)-1]
			if last.Text != c.want && last.Key != c.want {
				t.Errorf("Parse(%q) has %q and %q, want %q", text, last.Text, last.Key, c.want)
			}
		}
	}
}

// M1: which sequences of bytes are right ones, told by the document's list.
func TestParseSequences(t *testing.T) {
	in := func(b, from, to byte) bool { return from <= b && b <= to }
	more := func(s string) bool {
		for i := range len(s) {
			if !in(s[i], 0x80, 0xBF) {
				return false
			}
		}
		return true
	}
	right := func(s string) bool {
		switch a, b := s[0], s[1]; len(s) {
		case 2:
			return in(a, 0xC2, 0xDF) && more(s[1:])
		case 3:
			return more(s[2:]) && (a == 0xE0 && in(b, 0xA0, 0xBF) || (in(a, 0xE1, 0xEC) || in(a, 0xEE, 0xEF)) && more(s[1:2]) || a == 0xED && in(b, 0x80, 0x9F))
		case 4:
			return more(s[2:]) && (a == 0xF0 && in(b, 0x90, 0xBF) || in(a, 0xF1, 0xF3) && more(s[1:2]) || a == 0xF4 && in(b, 0x80, 0x8F))
		}
		return false
	}
	edges := []byte{0x7F, 0x80, 0x81, 0x8F, 0x90, 0x9F, 0xA0, 0xBF, 0xC0, 0xFF, 'x', '"'}
	check := func(s string) {
		for n := 2; n < len(s); n++ {
			if right(s[:n]) {
				return // what is wrong is behind it
			}
		}
		_, e, at := toml.Parse("k = \"" + s + "\"")
		if right(s) {
			if e != api.OK {
				t.Errorf("string of %x = %d, %d", s, e, at)
			}
		} else if e != api.ErrText || at != 5 {
			t.Errorf("string of %x = %d, %d, want ErrText, 5", s, e, at)
		}
	}
	for a := 0x80; a <= 0xFF; a++ {
		for b := range 256 {
			check(string([]byte{byte(a), byte(b)}))
		}
		for _, b := range edges {
			for _, c := range edges {
				check(string([]byte{byte(a), b, c}))
				for _, d := range edges {
					check(string([]byte{byte(a), b, c, d}))
				}
			}
		}
	}
}

// M1: faults of each kind, with their places.
func TestParseFaults(t *testing.T) {
	for _, c := range []struct {
		text string
		e    api.Errno
		at   int
	}{
		// too early an end
		{"a", api.ErrText, 1},
		{"a ", api.ErrText, 2},
		{"a =", api.ErrText, 3},
		{"a = \t", api.ErrText, 5},
		{"a = +", api.ErrText, 5},
		{"a = \"", api.ErrText, 5},
		{"a = \"x\\", api.ErrText, 7},
		{"a = \"\\u12e", api.ErrText, 10},
		{"a = [", api.ErrText, 5},
		{"a = [1", api.ErrText, 6},
		{"a = [1,\n # x", api.ErrText, 12},
		{"[", api.ErrText, 1},
		{"[[", api.ErrText, 2},
		{"[a", api.ErrText, 2},
		{"[a.", api.ErrText, 3},
		{"[[a]", api.ErrText, 4},
		{"\"a", api.ErrText, 2},
		// lines, headers and pairs
		{"=", api.ErrText, 0},
		{"\n\n!", api.ErrText, 2},
		{"\ufeffa = 1", api.ErrText, 0},
		{"\xe9 = 1", api.ErrText, 0},
		{"a = 1\r\n", api.ErrText, 5},
		{"\x00", api.ErrText, 0},
		{"a = 1 b = 2", api.ErrText, 6},
		{"a b = 1", api.ErrText, 2},
		{"a\n= 1", api.ErrText, 1},
		{"a =\n1", api.ErrText, 3},
		{"a = # x", api.ErrText, 4},
		{"a == 1", api.ErrText, 3},
		{"a.b = 1", api.ErrText, 1},
		{"'a' = 1", api.ErrText, 0},
		{"a\"b\" = 1", api.ErrText, 1},
		{"\"a\"b = 1", api.ErrText, 3},
		{"[]", api.ErrText, 1},
		{"[ ]", api.ErrText, 2},
		{"[[]]", api.ErrText, 2},
		{"[ [a]]", api.ErrText, 2},
		{"[[ [a]]", api.ErrText, 3},
		{"[[a] ]", api.ErrText, 4},
		{"[[a].b]", api.ErrText, 4},
		{"[a]]", api.ErrText, 3},
		{"[[a]]]", api.ErrText, 5},
		{"[.a]", api.ErrText, 1},
		{"[a.]", api.ErrText, 3},
		{"[a..b]", api.ErrText, 3},
		{"[a b]", api.ErrText, 3},
		{"[a,b]", api.ErrText, 2},
		{"[a\n]", api.ErrText, 2},
		{"[a # x\n]", api.ErrText, 3},
		{"[a] b = 1", api.ErrText, 4},
		{"[a][b]", api.ErrText, 3},
		// values
		{"a = b", api.ErrText, 4},
		{"a = 'b'", api.ErrText, 4},
		{"a = {}", api.ErrText, 4},
		{"a = .5", api.ErrText, 4},
		{"a = True", api.ErrText, 4},
		{"a = 1.5", api.ErrText, 5},
		{"a = 1_0", api.ErrText, 5},
		{"a = 1e3", api.ErrText, 5},
		{"a = 0x1", api.ErrText, 5},
		{"a = +-1", api.ErrText, 5},
		{"a = + 1", api.ErrText, 5},
		{"a = -\n", api.ErrText, 5},
		{"a = [,]", api.ErrText, 5},
		{"a = [1,,]", api.ErrText, 7},
		{"a = [1 2]", api.ErrText, 7},
		{"a = [1\r\n]", api.ErrText, 6},
		{"a = [b = 1]", api.ErrText, 5},
		{"a = [1]]", api.ErrText, 7},
		{"a = [1].", api.ErrText, 7},
		{"a = \"b\"c", api.ErrText, 7},
		// needless zeros: the first digit
		{"a = 00", api.ErrText, 4},
		{"a = 01", api.ErrText, 4},
		{"a = -01", api.ErrText, 5},
		{"a = [+000", api.ErrText, 6},
		{"a = 01x", api.ErrText, 4},
		{"a = -00000000000000000001", api.ErrText, 5},
		// words: the first byte
		{"a = t", api.ErrText, 4},
		{"a = tru", api.ErrText, 4},
		{"a = truee", api.ErrText, 4},
		{"a = fals\n", api.ErrText, 4},
		{"a = falsetrue", api.ErrText, 4},
		{"a = [true, f]", api.ErrText, 11},
		{"a = tRue", api.ErrText, 4},
		{"a = true1", api.ErrText, 8},
		{"a = trueX", api.ErrText, 8},
		{"a = false_", api.ErrText, 9},
		// strings
		{"a = \"\x1f\"", api.ErrText, 5},
		{"a = \"x\x7f\"", api.ErrText, 6},
		{"a = \"x\n\"", api.ErrText, 6},
		{"\"x\n\" = 1", api.ErrText, 2},
		{"a = \"\\a\"", api.ErrText, 6},
		{"a = \"\\U0041\"", api.ErrText, 6},
		{"a = \"\\\n\"", api.ErrText, 6},
		{"a = \"\\\xff\"", api.ErrText, 6},
		{"a = \"\\u\"", api.ErrText, 7},
		{"a = \"\\u00g0\"", api.ErrText, 9},
		{"a = \"\\u00G0\"", api.ErrText, 9},
		{"a = \"\\u123\"", api.ErrText, 10},
		{"a = \"x\\ud800\"", api.ErrText, 6},
		{"a = \"x\\uDFff\"", api.ErrText, 6},
		{"a = \"x\\uD83D\\uDE00\"", api.ErrText, 6},
		{"a = \"x\\uD80\"", api.ErrText, 11},
		{"\"\\ud900\" = 1", api.ErrText, 1},
		{"a = \"x\xc3", api.ErrText, 6},
		{"a = \"x\xe2\x82", api.ErrText, 6},
		{"a = \"x\xe2\x82\"", api.ErrText, 6},
		{"a = \"x\xf0\x9f\x98", api.ErrText, 6},
		{"a = \"\x80\"", api.ErrText, 5},
		{"\"\xed\xa0\x80\" = 1", api.ErrText, 1},
		{"[\"\xff\"]", api.ErrText, 2},
		// comments
		{"# \x00", api.ErrText, 2},
		{"#\r\n", api.ErrText, 1},
		{"a = 1 #\x7f", api.ErrText, 7},
		{"[a]#\x1f", api.ErrText, 4},
		{"a = [ # \x01\n]", api.ErrText, 8},
		// bounds of integers: the first byte, a sign too
		{"a = 1000000000000000000", api.ErrRange, 4},
		{"a = +1000000000000000000", api.ErrRange, 4},
		{"a = -1000000000000000000", api.ErrRange, 4},
		{"a = [1, -9223372036854775808]", api.ErrRange, 8},
		{"a = 99999999999999999999999999x", api.ErrRange, 4},
		// lists within lists
		{"a = [[[[[[[[[]]]]]]]]]", api.ErrMany, 12},
		{"a = [[[[[[[[1, [", api.ErrMany, 15},
		{"a = [[[[[[[[", api.ErrText, 12},
		// keys that are there
		{"a = 1\na = 1", api.ErrTwice, 6},
		{"a = 1\n\"\\u0061\" = 1", api.ErrTwice, 6},
		{"a = 1\n \"a\"", api.ErrText, 10},
		{"a = 1\na =", api.ErrTwice, 6},
		{"a = 1\na = !", api.ErrTwice, 6},
		{"a = 1\na = [[[[[[[[[", api.ErrTwice, 6},
		{"a = 1\na = 1000000000000000000", api.ErrTwice, 6},
		{"a = 1\na !", api.ErrText, 8},
		{"a = !\na = 1\na = 1", api.ErrText, 4},
		{"[t]\na = 1\n[u]\na = 1\na = 1", api.ErrTwice, 20},
		{"[a]\n[a]!", api.ErrTwice, 5},
		{"[a]\n[a", api.ErrText, 6},
		{"[[a]]\n[a ] #", api.ErrTwice, 7},
		{"[a]\n[[a]]", api.ErrTwice, 6},
		{"[a]\n[[a] ]", api.ErrText, 8},
		{"[a.b]\n[[a]]", api.ErrTwice, 8},
		{"[a.b]\n[a]\n[ \ta]", api.ErrTwice, 13},
		{"[a.b]\n[a]\nb = 1", api.ErrTwice, 10},
		{"a = 1\n[a]", api.ErrTwice, 7},
		{"a = []\n[a]", api.ErrTwice, 8},
		{"a = []\n[[a]]", api.ErrTwice, 9},
		{"a = []\n[a.b]", api.ErrTwice, 8},
		{"a = [1]\n[[a.b]]", api.ErrTwice, 10},
		{"a = \"\"\n[a.b]", api.ErrTwice, 8},
		{"a = 1\n[b]\nc = 1\n[b.c.a.a]", api.ErrTwice, 19},
		{"[[a]]\nb = 1\n[a.b]", api.ErrTwice, 15},
		{"[[a]]\n[a.b]\n[a.b]", api.ErrTwice, 15},
		{"[[a]]\n[a.b]\n[[a.b]]", api.ErrTwice, 16},
	} {
		got, e, at := toml.Parse(c.text)
		if len(got) != 0 || e != c.e || at != c.at {
			t.Errorf("Parse(%q) = %v, %d, %d, want %d, %d", c.text, got, e, at, c.e, c.at)
		}
		printed, e, at := toml.Print(c.text)
		if printed != "" || e != c.e || at != c.at {
			t.Errorf("Print(%q) = %q, %d, %d, want %d, %d", c.text, printed, e, at, c.e, c.at)
		}
	}
}

// M1: the greatest and the least integer, and zeros with a sign.
func TestParseIntegers(t *testing.T) {
	for _, c := range []struct {
		in   string
		want int
	}{
		{"0", 0}, {"-0", 0}, {"+0", 0}, {"7", 7}, {"+7", 7}, {"-7", -7}, {"10", 10},
		{"999999999999999999", 999999999999999999},
		{"+999999999999999999", 999999999999999999},
		{"-999999999999999999", -999999999999999999},
	} {
		got, e, at := toml.Parse("a = " + c.in)
		if e != api.OK || at != 0 || got[1].Num != c.want {
			t.Errorf("Parse of %s = %v, %d, %d", c.in, got, e, at)
		}
	}
}

// M1: the bound of a text counts ahead of all that stands in it.
func TestParseLength(t *testing.T) {
	full := "a = 1\n" + strings.Repeat("#", 100000-6)
	if got, e, at := toml.Parse(full); e != api.OK || at != 0 || len(got) != 2 {
		t.Errorf("Parse of %d bytes = %d, %d", len(full), e, at)
	}
	for _, text := range []string{full + "#", "!" + full, strings.Repeat("\x00", 1<<20)} {
		got, e, at := toml.Parse(text)
		if len(got) != 0 || e != api.ErrLong || at != 0 {
			t.Errorf("Parse of %d bytes = %v, %d, %d", len(text), got, e, at)
		}
		printed, e, at := toml.Print(text)
		if printed != "" || e != api.ErrLong || at != 0 {
			t.Errorf("Print of %d bytes = %q, %d, %d", len(text), printed, e, at)
		}
	}
}

// What a caller does with one list of an answer shows nowhere else.
func TestParseNewMemory(t *testing.T) {
	text := "a = [1, 2, 3]\nb = [3]\n[c]\nd = 1\n[[e]]\n[[e]]\n[[e]]\n"
	first, _, _ := toml.Parse(text)
	want, _, _ := toml.Parse(text)
	for i := range first {
		spare := first[i].Kids[:cap(first[i].Kids)]
		for j := range spare {
			spare[j] = -1
		}
		for k := i + 1; k < len(first); k++ {
			if !slices.Equal(first[k].Kids, want[k].Kids) {
				t.Errorf("node %d has kids %v behind a change of node %d, want %v", k, first[k].Kids, i, want[k].Kids)
			}
		}
	}
	again, _, _ := toml.Parse(text)
	if !reflect.DeepEqual(again, want) {
		t.Errorf("Parse again = %v, want %v", again, want)
	}
}
