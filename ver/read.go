package ver

import (
	"strings"

	"pantry/api"
)

// partsKind tells behind which sign parts stand, as that decides on zeros.
type partsKind int

const (
	preParts   partsKind = iota // behind -, where a part of digits alone is a number
	buildParts                  // behind +
)

// reader goes through a text from the left. When one of its methods answers
// an error, at is the error's place.
type reader struct {
	text string
	at   int
}

func (r *reader) version() (api.Version, api.Errno) {
	var v api.Version
	errno := r.numbers(&v)
	if errno == api.OK && r.take('-') {
		v.Pre, errno = r.parts(preParts)
	}
	if errno == api.OK && r.take('+') {
		v.Build, errno = r.parts(buildParts)
	}
	if errno == api.OK && r.at < len(r.text) {
		errno = api.ErrText
	}
	return v, errno
}

func (r *reader) numbers(v *api.Version) api.Errno {
	for i, number := range [...]*int{&v.Major, &v.Minor, &v.Patch} {
		if i > 0 && !r.take('.') {
			return api.ErrText
		}
		var errno api.Errno
		if *number, errno = r.number(); errno != api.OK {
			return errno
		}
	}
	return api.OK
}

// number takes all digits before it judges them, as the place of needless
// zeros, and of a number that is too great, is the first of them.
func (r *reader) number() (int, api.Errno) {
	start := r.at
	digits := r.run(isDigit)
	if digits == "" {
		return 0, api.ErrText
	}
	if hasNeedlessZeros(digits) {
		r.at = start
		return 0, api.ErrText
	}
	number := 0
	for _, digit := range []byte(digits) {
		number = 10*number + int(digit-'0')
		if number > maxNumber {
			r.at = start
			return 0, api.ErrRange
		}
	}
	return number, api.OK
}

// parts takes parts with dots between them. What it answers is new memory.
func (r *reader) parts(kind partsKind) (string, api.Errno) {
	start := r.at
	if errno := r.skipParts(kind); errno != api.OK {
		return "", errno
	}
	return strings.Clone(r.text[start:r.at]), api.OK
}

func (r *reader) skipParts(kind partsKind) api.Errno {
	for {
		start := r.at
		part := r.run(isPartByte)
		if part == "" {
			return api.ErrText
		}
		if kind == preParts && isDigits(part) && hasNeedlessZeros(part) {
			r.at = start
			return api.ErrText
		}
		if !r.take('.') {
			return api.OK
		}
	}
}

// run takes all bytes of a kind that stand next to one another from here on.
func (r *reader) run(is func(byte) bool) string {
	start := r.at
	for r.at < len(r.text) && is(r.text[r.at]) {
		r.at++
	}
	return r.text[start:r.at]
}

// take takes that one byte, if it stands here.
func (r *reader) take(sign byte) bool {
	if r.at == len(r.text) || r.text[r.at] != sign {
		return false
	}
	r.at++
	return true
}

// isParts tells whether a text is parts with dots between, and nothing else.
func isParts(text string, kind partsKind) bool {
	r := reader{text: text}
	return r.skipParts(kind) == api.OK && r.at == len(text)
}

func isDigit(sign byte) bool { return '0' <= sign && sign <= '9' }

func isPartByte(sign byte) bool {
	return isDigit(sign) || 'A' <= sign && sign <= 'Z' || 'a' <= sign && sign <= 'z' || sign == '-'
}

// isDigits tells whether a text has digits, and nothing else.
func isDigits(text string) bool {
	for _, sign := range []byte(text) {
		if !isDigit(sign) {
			return false
		}
	}
	return text != ""
}

func hasNeedlessZeros(digits string) bool { return len(digits) > 1 && digits[0] == '0' }
