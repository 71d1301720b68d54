package ver

import (
	"cmp"
	"strings"

	"pantry/scan"
)

// part is what stands between two dots of Pre: a number or a word.
type part interface {
	// order tells where the part stands: ahead of the other one (-1),
	// together with it (0) or behind it (1).
	order(other part) int
}

// numberPart is a part of digits alone. It is kept as its digits without needless
// zeros, as it may be of any size: so the one with more digits is the greater.
type numberPart string

// wordPart is any other part, also one without anything in it.
type wordPart string

func (n numberPart) order(other part) int {
	o, ok := other.(numberPart)
	if !ok {
		return -1
	}
	if len(n) != len(o) {
		return cmp.Compare(len(n), len(o))
	}
	return cmp.Compare(n, o)
}

func (w wordPart) order(other part) int {
	o, ok := other.(wordPart)
	if !ok {
		return 1
	}
	return cmp.Compare(w, o)
}

func partOf(text string) part {
	if scan.IsDigits(text) {
		return numberPart(strings.TrimLeft(text, "0"))
	}
	return wordPart(text)
}

// comparePre compares by the parts behind -, from the first one on.
func comparePre(a, b string) int {
	if a == "" || b == "" {
		// The other way round: without Pre is behind with Pre.
		return cmp.Compare(len(b), len(a))
	}
	for {
		partA, restA, moreA := strings.Cut(a, ".")
		partB, restB, moreB := strings.Cut(b, ".")
		if order := partOf(partA).order(partOf(partB)); order != 0 {
			return order
		}
		switch {
		case moreA && moreB:
			a, b = restA, restB
		case moreA:
			return 1
		case moreB:
			return -1
		default:
			return 0
		}
	}
}
