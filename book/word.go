package book

import (
	"pantry/api"
	"pantry/ranges"
	"pantry/ver"
)

func isLetter(c byte) bool { return 'a' <= c && c <= 'z' }

func isNameByte(c byte) bool {
	return isLetter(c) || '0' <= c && c <= '9' || c == '-' || c == '_'
}

func isVersion(text string) bool {
	_, errno, _ := ver.Parse(text)
	return errno == api.OK
}

func isRange(text string) bool {
	_, errno, _ := ranges.Parse(text)
	return errno == api.OK
}
