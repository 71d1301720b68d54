package toml_test

import (
	"regexp"
	"strings"
	"testing"

	"pantry/api"
	"pantry/toml"
)

// maxOpen is how many lists within each other the pattern has.
const maxOpen = 3

// grammar is the document's, as one pattern.
func grammar() *regexp.Regexp {
	blanks := `[ \t]*`
	comment := `(?:#[^\x00-\x08\x0a-\x1f\x7f]*)`
	str := `(?:"(?:[^\x00-\x08\x0a-\x1f\x7f"\\]|\\[btnfr"\\]|\\u[0-9a-fA-F]{4})*")`
	key := `(?:[A-Za-z0-9_-]+|` + str + `)`
	keys := blanks + key + `(?:` + blanks + `\.` + blanks + key + `)*` + blanks
	header := `(?:\[` + keys + `\]|\[\[` + keys + `\]\])`
	gap := `(?:` + blanks + comment + `?\n)*` + blanks
	plain := str + `|[+-]?(?:0|[1-9][0-9]*)|true|false`
	list := func(value string) string {
		value = `(?:` + value + `)`
		return `\[` + gap + `(?:` + value + gap + `(?:,` + gap + value + gap + `)*(?:,` + gap + `)?)?\]`
	}
	value := plain
	for range maxOpen {
		value = plain + `|` + list(value)
	}
	pair := key + blanks + `=` + blanks + `(?:` + value + `)`
	line := blanks + `(?:` + header + `|` + pair + `)?` + blanks + comment + `?`
	return regexp.MustCompile(`^(?:` + line + `\n)*` + line + `\z`)
}

// ends has ways to bring what has begun to an end.
func ends() []string {
	var out []string
	for _, quote := range []string{"", `"`, `n"`, `0000"`, `0"`} {
		for _, end := range []string{"", "]", "]]", "]]]", "a]", "a]]", "=1", "1", "1]", "1]]", "1]]]", "\n]", "\n]]", "\n]]]"} {
			out = append(out, quote+end)
		}
	}
	return out
}

// M1: every text over some signs, up to a length: ErrText stands at the first
// byte with which no text begins, or behind the text if it ends too early.
func TestParseAllShort(t *testing.T) {
	g, tails := grammar(), ends()
	begins := func(s string) bool {
		for _, tail := range tails {
			if g.MatchString(s + tail) {
				return true
			}
		}
		return false
	}
	seen := 0
	var walk func(signs, text string, left int)
	walk = func(signs, text string, left int) {
		seen++
		_, e, at := toml.Parse(text)
		whole := g.MatchString(text)
		if whole && e != api.OK && e != api.ErrTwice || !whole && e != api.ErrTwice && (e != api.ErrText || at != len(text)) {
			t.Errorf("Parse(%q) = %d, %d; a whole text: %v", text, e, at, whole)
		}
		if left == 0 || e == api.ErrTwice {
			return
		}
		for i := range len(signs) {
			more := text + signs[i:i+1]
			if strings.Count(more, "[") > maxOpen {
				continue
			}
			if begins(more) {
				walk(signs, more, left-1)
			} else if _, e, at := toml.Parse(more + "\n"); e != api.ErrText || at != len(text) {
				t.Errorf("Parse(%q) = %d, %d, want ErrText, %d", more+"\n", e, at, len(text))
			}
		}
	}
	walk("a1[].=\" \n#,", "", 5)
	walk("a[]\"\\nu=,#\t\n", "a=[", 4)
	walk("1+-,] \n#\"", "a = [", 5)
	walk("b\\nu0d\"\x01", "a = \"", 5)
	if seen < 10000 {
		t.Errorf("only %d texts were looked at", seen)
	}
}

// M1: a control is never right, wherever the text has come to.
func TestParseControlAnywhere(t *testing.T) {
	text := "a = [1, \"x\\n\\u0041\", # c\n 12 ]\n\n[ b . \"c\" ] # d\n[[e.f]]\ng = +5\n"
	if _, e, _ := toml.Parse(text); e != api.OK {
		t.Fatalf("Parse(%q) = %d", text, e)
	}
	for i := range len(text) {
		for _, c := range []string{"\x01", "\x7f", "\r"} {
			cut := text[:i] + c
			for _, whole := range []string{cut, cut + text[i:], cut + strings.Repeat("!", 9)} {
				if _, e, at := toml.Parse(whole); e != api.ErrText || at != i {
					t.Errorf("Parse(%q) = %d, %d, want ErrText, %d", whole, e, at, i)
				}
			}
		}
	}
}
