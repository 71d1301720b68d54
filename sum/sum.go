// Package sum tells digests: see doc/01-sum.md.
package sum

import (
	"strings"

	"pantry/api"
)

const (
	digestHead  = "sha256:"
	digestSigns = 2 * sumSize
)

// Sum tells a text's sum (H1).
func Sum(data string) string {
	h := startState()
	for c := range chunks(data) {
		h = h.plus(h.stirred(c.words().spread()))
	}
	return h.text()
}

// Digest tells a text's digest (H4).
func Digest(data string) string {
	return digestHead + Hex(Sum(data))
}

// Check tells whether a text is a digest (H4).
func Check(digest string) bool {
	signs, ok := strings.CutPrefix(digest, digestHead)
	return ok && len(signs) == digestSigns && firstWrongSign(signs) == len(signs)
}

// Hex writes bytes as signs (H2).
func Hex(data string) string {
	var out strings.Builder
	out.Grow(2 * len(data))
	for i := range len(data) {
		out.WriteByte(hexSigns[data[i]>>4])
		out.WriteByte(hexSigns[data[i]&15])
	}
	return out.String()
}

// Bytes reads them (H3).
func Bytes(hex string) (string, api.Errno, int) {
	// A wrong sign counts ahead of an odd number of signs, so all signs are
	// looked at before any is read.
	if at := firstWrongSign(hex); at < len(hex) {
		return "", api.ErrText, at
	}
	if len(hex)%2 == 1 {
		return "", api.ErrText, len(hex)
	}
	var out strings.Builder
	out.Grow(len(hex) / 2)
	for i := 0; i < len(hex); i += 2 {
		out.WriteByte(signValue(hex[i])<<4 | signValue(hex[i+1]))
	}
	return out.String(), api.OK, 0
}
