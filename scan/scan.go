// Package scan goes through a text from the left, and takes from it what
// versions and ranges have in common: numbers and parts (doc/03-ver.md).
package scan

import (
	"strings"

	"pantry/api"
)

// MaxNumber is the greatest number that is read.
const MaxNumber = 999999999

// PartsKind tells behind which sign parts stand, as that decides on zeros.
type PartsKind int

const (
	PreParts   PartsKind = iota // behind -, where a part of digits alone is a number
	BuildParts                  // behind +
)

// Reader goes through a text from the left. When one of its methods answers
// an error, At is the error's place.
type Reader struct {
	Text string
	At   int
}

// Ended tells whether all of the text is taken.
func (r *Reader) Ended() bool { return r.At == len(r.Text) }

// Next tells whether that text stands here.
func (r *Reader) Next(text string) bool { return strings.HasPrefix(r.Text[r.At:], text) }

// Take takes that text, if it stands here.
func (r *Reader) Take(text string) bool {
	if !r.Next(text) {
		return false
	}
	r.At += len(text)
	return true
}

// Run takes all bytes of a kind that stand next to one another from here on.
func (r *Reader) Run(is func(byte) bool) string {
	start := r.At
	for r.At < len(r.Text) && is(r.Text[r.At]) {
		r.At++
	}
	return r.Text[start:r.At]
}

// Number takes all digits before it judges them, as the place of needless
// zeros, and of a number that is too great, is the first of them.
func (r *Reader) Number() (int, api.Errno) {
	start := r.At
	digits := r.Run(isDigit)
	if digits == "" {
		return 0, api.ErrText
	}
	if hasNeedlessZeros(digits) {
		r.At = start
		return 0, api.ErrText
	}
	number := 0
	for _, digit := range []byte(digits) {
		number = 10*number + int(digit-'0')
		if number > MaxNumber {
			r.At = start
			return 0, api.ErrRange
		}
	}
	return number, api.OK
}

// Tail takes what may stand behind the three numbers of a version: Pre and
// Build, which are empty where they do not stand.
func (r *Reader) Tail() (pre string, build string, errno api.Errno) {
	if r.Take("-") {
		if pre, errno = r.parts(PreParts); errno != api.OK {
			return "", "", errno
		}
	}
	if r.Take("+") {
		if build, errno = r.parts(BuildParts); errno != api.OK {
			return "", "", errno
		}
	}
	return pre, build, api.OK
}

// parts takes parts with dots between them. What it answers is new memory.
func (r *Reader) parts(kind PartsKind) (string, api.Errno) {
	start := r.At
	if errno := r.skipParts(kind); errno != api.OK {
		return "", errno
	}
	return strings.Clone(r.Text[start:r.At]), api.OK
}

func (r *Reader) skipParts(kind PartsKind) api.Errno {
	for {
		start := r.At
		part := r.Run(isPartByte)
		if part == "" {
			return api.ErrText
		}
		if kind == PreParts && IsDigits(part) && hasNeedlessZeros(part) {
			r.At = start
			return api.ErrText
		}
		if !r.Take(".") {
			return api.OK
		}
	}
}

// IsParts tells whether a text is parts with dots between, and nothing else.
func IsParts(text string, kind PartsKind) bool {
	r := Reader{Text: text}
	return r.skipParts(kind) == api.OK && r.Ended()
}

// IsDigits tells whether a text has digits, and nothing else.
func IsDigits(text string) bool {
	for _, sign := range []byte(text) {
		if !isDigit(sign) {
			return false
		}
	}
	return text != ""
}

func isDigit(sign byte) bool { return '0' <= sign && sign <= '9' }

func isPartByte(sign byte) bool {
	return isDigit(sign) || 'A' <= sign && sign <= 'Z' || 'a' <= sign && sign <= 'z' || sign == '-'
}

func hasNeedlessZeros(digits string) bool { return len(digits) > 1 && digits[0] == '0' }
