package book_test

import (
	"strings"
	"testing"

	"pantry/book"
)

// B1.
func TestName(t *testing.T) {
	for _, c := range []struct {
		text string
		want bool
	}{
		{"a", true},
		{"z", true},
		{"left-pad", true},
		{"a_b", true},
		{"a0", true},
		{"a9", true},
		{"a-", true},
		{"a_", true},
		{"a--__", true},
		{strings.Repeat("a", 29), true},
		{strings.Repeat("a", 30), true},
		{strings.Repeat("a", 31), false},
		{strings.Repeat("a", 100000), false},
		{"", false},
		{"-", false},
		{"_", false},
		{"0", false},
		{"0a", false},
		{"-a", false},
		{"_a", false},
		{"A", false},
		{"aA", false},
		{"a.b", false},
		{"a/b", false},
		{"a b", false},
		{" a", false},
		{"a ", false},
		{"a\n", false},
		{"a\x00", false},
		{"ä", false},
		{"aä", false},
		{"a\xff", false},
	} {
		if got := book.Name(c.text); got != c.want {
			t.Errorf("Name(%q) = %t", c.text, got)
		}
	}
}

// B1: each byte as the first one, an inner one and the last one that there
// may be.
func TestNameBytes(t *testing.T) {
	const letters = "abcdefghijklmnopqrstuvwxyz"
	for i := range 256 {
		sign := string([]byte{byte(i)})
		if got, want := book.Name(sign), strings.Contains(letters, sign); got != want {
			t.Errorf("Name(%q) = %t", sign, got)
		}
		want := strings.Contains(letters+"0123456789-_", sign)
		for _, text := range []string{"a" + sign, "a" + sign + "b", "a" + strings.Repeat("b", 28) + sign} {
			if got := book.Name(text); got != want {
				t.Errorf("Name(%q) = %t", text, got)
			}
		}
	}
}
